package hazard

import (
	"maps"
	"slices"

	"hangfire/api"
)

// inForce returns the notices that are in force after a list of strings, by their numbers.
func inForce(l []string) ([]api.HzNotice, api.Errno) {
	if len(l) > api.MaxHzNotices {
		return nil, api.ErrLong
	}
	valid := map[int]api.HzNotice{}
	for _, s := range l {
		x, e := Parse(s)
		if e != api.OK {
			return nil, e
		}
		if !x.Cancel {
			valid[x.Number] = x
			continue
		}
		if _, ok := valid[x.Number]; !ok {
			return nil, api.ErrNone
		}
		delete(valid, x.Number)
	}
	var sorted []api.HzNotice
	for _, number := range slices.Sorted(maps.Keys(valid)) {
		sorted = append(sorted, valid[number])
	}
	return sorted, api.OK
}

// Force returns the notices that are in force at a tick.
func Force(l []string, tick int) ([]api.HzNotice, api.Errno) {
	all, e := inForce(l)
	if e != api.OK {
		return nil, e
	}
	if !isTick(tick) {
		return nil, api.ErrRange
	}
	return slices.DeleteFunc(all, func(x api.HzNotice) bool { return !isIn(tick, x.From, x.Until) }), api.OK
}

// covers reports whether a notice covers an impact.
func covers(n api.HzNotice, x api.FlImpact) bool {
	return lies(x.At, n.From, n.Until) && lies(x.Area.X, kilometre*n.X.Lo, kilometre*n.X.Hi) && lies(x.Area.Y, kilometre*n.Y.Lo, kilometre*n.Y.Hi)
}

// Covers returns the number of a notice that covers an impact (0: none does).
func Covers(l []string, x api.FlImpact) (int, api.Errno) {
	all, e := inForce(l)
	if e != api.OK {
		return 0, e
	}
	if !isImpact(x) {
		return 0, api.ErrRange
	}
	for _, n := range all {
		if covers(n, x) {
			return n.Number, api.OK
		}
	}
	return 0, api.OK
}
