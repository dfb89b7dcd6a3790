package track

import (
	"hangfire/api"
	"hangfire/wind"
)

// Check returns the part, the index in it and the error of a task.
func Check(t api.TkTask) (part, at int, e api.Errno) {
	switch {
	case len(t.Trackers) > api.MaxTkTrackers, len(t.Plots) > api.MaxTkPlots:
		return 1, 0, api.ErrLong
	case !isTick(t.From), !isIn(t.Speed, 1, api.MaxSpeed), !isIn(t.Accel, 1, api.MaxSpeed):
		return 1, 0, api.ErrRange
	}
	for i, k := range t.Trackers {
		if e := checkTracker(k, t.Trackers[:i]); e != api.OK {
			return 2, i, e
		}
	}
	for i := range t.Plots {
		if e := checkPlot(t, i); e != api.OK {
			return 3, i, e
		}
	}
	return 0, 0, api.OK
}

// checkTracker returns the error of a tracker behind other ones.
func checkTracker(k api.TkTracker, before []api.TkTracker) api.Errno {
	if !wind.Name(k.Name) {
		return api.ErrForm
	}
	for _, b := range before {
		if b.Name == k.Name {
			return api.ErrTwice
		}
	}
	if !isAway(k.X) || !isAway(k.Y) || !isIn(k.Error, 0, api.MaxTkError) || !isIn(k.Grow, 0, api.MaxTkGrow) || !isIn(k.Late, 0, api.MaxTkLate) {
		return api.ErrRange
	}
	return api.OK
}

func isAway(n int) bool { return isIn(n, -api.MaxTkAway, api.MaxTkAway) }

// checkPlot returns the error of the plot with an index.
func checkPlot(t api.TkTask, i int) api.Errno {
	p := t.Plots[i]
	switch {
	case !isIndex(p.Tracker, len(t.Trackers)):
		return api.ErrNone
	case !isIn(p.Tick, t.From, api.MaxTick), !isPart(p.X), !isPart(p.Y), !isPart(p.Z):
		return api.ErrRange
	}
	for _, b := range t.Plots[:i] {
		if b.Tracker == p.Tracker && b.Tick == p.Tick {
			return api.ErrTwice
		}
	}
	return api.OK
}

// CheckBox returns the error of a box.
func CheckBox(b api.TkBox) api.Errno {
	if !isTick(b.At) {
		return api.ErrRange
	}
	for part := range parts {
		a := axisOf(part)
		if !lies(*a.place(&b), api.MaxPlace) || !lies(*a.velocity(&b), api.MaxSpeed) {
			return api.ErrRange
		}
	}
	return api.OK
}

// lies reports whether a span has a number, and none whose size is above another one.
func lies(s api.Span, size int) bool {
	return s.Lo <= s.Hi && isIn(s.Lo, -size, size) && isIn(s.Hi, -size, size)
}
