package wind

import "hangfire/api"

// mark is what only one source, or only one sounding, may have: a name, or a source, a tick and a height. A name is never empty, so marks of both kinds differ.
type mark struct {
	name                 string
	source, tick, height int
}

// marks are those that are taken.
type marks map[mark]bool

// take reports whether a mark was free, and takes it.
func (l marks) take(m mark) bool {
	if l[m] {
		return false
	}
	l[m] = true
	return true
}

// Check returns the part, the index in it and the error of a task.
func Check(t api.WnTask) (part, at int, e api.Errno) {
	if len(t.Sources) > api.MaxWnSources || len(t.Soundings) > api.MaxWnSoundings || len(t.Cuts) < 1 || len(t.Cuts) > api.MaxWnBands {
		return 1, 0, api.ErrLong
	}
	taken := marks{}
	for i, s := range t.Sources {
		if e := checkSource(s, taken); e != api.OK {
			return 2, i, e
		}
	}
	for i := range t.Soundings {
		if e := checkSounding(t, i, taken); e != api.OK {
			return 3, i, e
		}
	}
	from := 0
	for i, n := range t.Cuts {
		if e := checkCut(n, from); e != api.OK {
			return 4, i, e
		}
		from = n
	}
	if !isChange(t.Age) || !isChange(t.Shear) {
		return 5, 0, api.ErrRange
	}
	return 0, 0, api.OK
}

func isChange(n int) bool { return n >= 0 && n <= api.MaxWnChange }

// checkSource returns the error of a source, by what those before it have taken.
func checkSource(s api.WnSource, taken marks) api.Errno {
	switch {
	case !Name(s.Name):
		return api.ErrForm
	case !taken.take(mark{name: s.Name}):
		return api.ErrTwice
	case s.Kind != api.WnTower && s.Kind != api.WnBalloon && s.Kind != api.WnLidar:
		return api.ErrArg
	case s.Error < 0, s.Error > api.MaxWnError, s.Late < 0, s.Late > api.MaxWnLate, s.Life < 1, s.Life > api.MaxWnLife:
		return api.ErrRange
	case !isHeight(s.Low), !isHeight(s.High), s.Low > s.High:
		return api.ErrRange
	}
	return api.OK
}

// checkSounding returns the error of the sounding with an index, by what those before it have taken.
func checkSounding(t api.WnTask, i int, taken marks) api.Errno {
	s := t.Soundings[i]
	if s.Source < 0 || s.Source >= len(t.Sources) {
		return api.ErrNone
	}
	by := t.Sources[s.Source]
	switch {
	case !isTick(s.Tick), s.Height < by.Low, s.Height > by.High, !isPart(s.X), !isPart(s.Y):
		return api.ErrRange
	case !taken.take(mark{source: s.Source, tick: s.Tick, height: s.Height}):
		return api.ErrTwice
	case by.Kind == api.WnBalloon && falls(t.Soundings[:i], s):
		return api.ErrArg
	}
	return api.OK
}

// falls reports whether a sounding has a tick or a height below that of the last one of its source before it.
func falls(before []api.WnSounding, s api.WnSounding) bool {
	for i := len(before) - 1; i >= 0; i-- {
		if b := before[i]; b.Source == s.Source {
			return s.Tick < b.Tick || s.Height < b.Height
		}
	}
	return false
}

// checkCut returns the error of a cut that has to be above a height.
func checkCut(n, from int) api.Errno {
	switch {
	case n < 1, n > api.MaxWnHeight:
		return api.ErrRange
	case n <= from:
		return api.ErrArg
	}
	return api.OK
}
