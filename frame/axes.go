package frame

import (
	"math/bits"

	"hangfire/api"
)

// set is some of the directions: that with the index i is one of them if the bit i is 1.
type set uint32

// only returns the set of one direction.
func only(dir int) set { return 1 << dir }

// first returns the least direction of a set that is not empty.
func (l set) first() int { return bits.TrailingZeros32(uint32(l)) }

// rest returns a set without its least direction.
func (l set) rest() set { return l & (l - 1) }

// dirs returns the directions of a set, ascending.
func (l set) dirs() (dirs []int) {
	for ; l != 0; l = l.rest() {
		dirs = append(dirs, l.first())
	}
	return dirs
}

// turned returns the directions to which the axis can turn from one of some directions.
func turned(s api.FrSky, from set) (to set) {
next:
	for i, d := range s.Dirs {
		for l := from; l != 0; l = l.rest() {
			if canTurn(s, s.Dirs[l.first()], d) {
				to |= only(i)
				continue next
			}
		}
	}
	return to
}

// agrees reports whether a direction agrees with a sensor whose channel has some word.
func agrees(d api.FlDir, k api.FrSensor, word int) bool {
	is, said := product(d, vector(k)), api.Unit*k.Scale*(word-zeroWord)
	if k.Sun {
		is = max(is, 0)
	}
	return isSize(is-said, api.Unit*k.Error)
}

// agreeing returns those of some directions that agree with all sensors that are in the frame of a report.
func agreeing(f api.FrFormat, s api.FrSky, some set, r api.FrReport) (l set) {
next:
	for ; some != 0; some = some.rest() {
		for _, k := range s.Sensors {
			c := f.Channels[k.Channel]
			if isInFrame(c, r.Number) && !agrees(s.Dirs[some.first()], k, r.Words[c.Word]) {
				continue next
			}
		}
		l |= only(some.first())
	}
	return l
}

// checkReports returns the error of reports.
func checkReports(f api.FrFormat, l []api.FrReport) api.Errno {
	for i, r := range l {
		if len(r.Words) != f.Words || i > 0 && r.Number <= l[i-1].Number {
			return api.ErrArg
		}
	}
	if !every(l, func(r api.FrReport) bool { return isNumber(r.Number) && every(r.Words, isWord) }) {
		return api.ErrRange
	}
	if len(l) > 0 && l[len(l)-1].Number-l[0].Number > api.MaxFrAxes {
		return api.ErrLong
	}
	return api.OK
}

// Axes returns the directions that the axis can have, frame by frame.
func Axes(f api.FrFormat, s api.FrSky, l []api.FrReport) ([]api.FrAxes, api.Errno) {
	if _, e := CheckSky(f, s); e != api.OK {
		return nil, e
	}
	if e := checkReports(f, l); e != api.OK {
		return nil, e
	}
	if len(l) == 0 {
		return nil, api.OK
	}
	var axes []api.FrAxes
	number, can := l[0].Number, only(len(s.Dirs))-1
	tell := func() {
		axes = append(axes, api.FrAxes{Number: number, Dirs: can.dirs()})
		number, can = number+1, turned(s, can)
	}
	for _, r := range l {
		for number < r.Number {
			tell()
		}
		if !r.Marked {
			can = agreeing(f, s, can, r)
		}
		tell()
	}
	return axes, api.OK
}
