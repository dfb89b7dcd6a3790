package aim_test

import (
	"math"
	"testing"

	"hangfire/aim"
	"hangfire/api"
)

// many returns n weights of one height each.
func many(n int) []api.AmBand {
	var l []api.AmBand
	for i := range n {
		l = append(l, weight(i, i+1, 0, 0))
	}
	return l
}

// checkCase is a change of the task of the examples, and what Check returns of it.
type checkCase struct {
	change   func(t *api.AmTask)
	part, at int
	e        api.Errno
}

func runChecks(t *testing.T, l []checkCase) {
	for i, c := range l {
		x := example()
		c.change(&x)
		if part, at, e := aim.Check(x); part != c.part || at != c.at || e != c.e {
			t.Errorf("%d: Check = %d, %d, %d", i, part, at, e)
		}
	}
}

// P3.1
func TestCheckCounts(t *testing.T) {
	runChecks(t, []checkCase{
		{func(t *api.AmTask) {}, 0, 0, api.OK},
		{func(t *api.AmTask) { t.Response = nil }, 1, 0, api.ErrLong},
		{func(t *api.AmTask) { t.Response = []api.AmBand{} }, 1, 0, api.ErrLong},
		{func(t *api.AmTask) { t.Response = many(1) }, 0, 0, api.OK},
		{func(t *api.AmTask) { t.Response = many(20) }, 0, 0, api.OK},
		{func(t *api.AmTask) { t.Response = many(21) }, 1, 0, api.ErrLong},
		{func(t *api.AmTask) { t.Settings = nil }, 1, 0, api.ErrLong},
		{func(t *api.AmTask) { t.Settings = make([]api.AmSetting, 1) }, 0, 0, api.OK},
		{func(t *api.AmTask) { t.Settings = make([]api.AmSetting, 40) }, 0, 0, api.OK},
		{func(t *api.AmTask) { t.Settings = make([]api.AmSetting, 41) }, 1, 0, api.ErrLong},
		// A part comes before the next one, also of an element behind.
		{func(t *api.AmTask) { t.Settings = nil; t.Response[0].From = 1; t.Gain = -1 }, 1, 0, api.ErrLong},
		{func(t *api.AmTask) { t.Response[1].K.Lo = 1; t.Settings[0].Scale = -1; t.Gain = -1 }, 2, 1, api.ErrRange},
		{func(t *api.AmTask) { t.Settings[2].Scale = -1; t.Gain = -1 }, 3, 2, api.ErrRange},
	})
}

// P3.1
func TestCheckWeights(t *testing.T) {
	runChecks(t, []checkCase{
		{func(t *api.AmTask) { t.Response[0].From = 1 }, 2, 0, api.ErrArg},
		{func(t *api.AmTask) { t.Response[0].From = -1 }, 2, 0, api.ErrArg},
		{func(t *api.AmTask) { t.Response[0].From = math.MinInt }, 2, 0, api.ErrArg},
		{func(t *api.AmTask) { t.Response[1].From = 199999 }, 2, 1, api.ErrArg},
		{func(t *api.AmTask) { t.Response[1].From = 200001 }, 2, 1, api.ErrArg},
		{func(t *api.AmTask) { t.Response[1].From = 0 }, 2, 1, api.ErrArg},
		{func(t *api.AmTask) { t.Response = t.Response[:1]; t.Response[0].To = 1 }, 0, 0, api.OK},
		{func(t *api.AmTask) { t.Response[0].To = 0 }, 2, 0, api.ErrRange},
		{func(t *api.AmTask) { t.Response[0].To = -1 }, 2, 0, api.ErrRange},
		{func(t *api.AmTask) { t.Response[1].To = 200001 }, 0, 0, api.OK},
		{func(t *api.AmTask) { t.Response[1].To = 200000 }, 2, 1, api.ErrRange},
		{func(t *api.AmTask) { t.Response[1].To = 100000000 }, 0, 0, api.OK},
		{func(t *api.AmTask) { t.Response[1].To = 100000001 }, 2, 1, api.ErrRange},
		{func(t *api.AmTask) { t.Response[1].To = math.MaxInt }, 2, 1, api.ErrRange},
		{func(t *api.AmTask) { t.Response[1].K = span(-10000000, 10000000) }, 0, 0, api.OK},
		{func(t *api.AmTask) { t.Response[1].K = span(-10000001, 0) }, 2, 1, api.ErrRange},
		{func(t *api.AmTask) { t.Response[1].K = span(0, 10000001) }, 2, 1, api.ErrRange},
		{func(t *api.AmTask) { t.Response[1].K = only(7) }, 0, 0, api.OK},
		{func(t *api.AmTask) { t.Response[1].K = span(8, 7) }, 2, 1, api.ErrRange},
		{func(t *api.AmTask) { t.Response[1].K = span(math.MinInt, math.MaxInt) }, 2, 1, api.ErrRange},
		{func(t *api.AmTask) { t.Response[1].K = span(math.MaxInt, math.MinInt) }, 2, 1, api.ErrRange},
		// The first weight with an error decides, and of its errors the one that is named first.
		{func(t *api.AmTask) { t.Response[0].K.Hi = 0; t.Response[1].From = 7 }, 2, 0, api.ErrRange},
		{func(t *api.AmTask) { t.Response[0].From = 1; t.Response[0].To = 0 }, 2, 0, api.ErrArg},
		{func(t *api.AmTask) { t.Response[1].From = 7; t.Response[1].K.Hi = -501 }, 2, 1, api.ErrArg},
	})
}

// spanCases changes a span, whose ends are at most far from 0, in all ways.
func spanCases(far, part, at int, of func(t *api.AmTask) *api.Span) []checkCase {
	set := func(lo, hi int, e api.Errno) checkCase {
		c := checkCase{change: func(t *api.AmTask) { *of(t) = span(lo, hi) }, e: e}
		if e != api.OK {
			c.part, c.at = part, at
		}
		return c
	}
	return []checkCase{
		set(-far, far, api.OK), set(far, far, api.OK), set(-far, -far, api.OK), set(3, 2, api.ErrRange),
		set(-far-1, 0, api.ErrRange), set(0, far+1, api.ErrRange), set(far+1, far+1, api.ErrRange), set(-far-1, -far-1, api.ErrRange),
		set(math.MinInt, math.MaxInt, api.ErrRange), set(math.MaxInt, math.MinInt, api.ErrRange),
	}
}

// numberCases changes a number, which is from least to most, in all ways.
func numberCases(least, most, part, at int, of func(t *api.AmTask) *int) []checkCase {
	set := func(n int) checkCase {
		c := checkCase{change: func(t *api.AmTask) { *of(t) = n }}
		if n < least || n > most {
			c.part, c.at, c.e = part, at, api.ErrRange
		}
		return c
	}
	return []checkCase{set(least), set(most), set(least - 1), set(most + 1), set(math.MinInt), set(math.MaxInt)}
}

// P3.1
func TestCheckSettings(t *testing.T) {
	const far = 500000000
	for i := range 3 {
		runChecks(t, spanCases(far, 3, i, func(t *api.AmTask) *api.Span { return &t.Settings[i].Area.X }))
		runChecks(t, spanCases(far, 3, i, func(t *api.AmTask) *api.Span { return &t.Settings[i].Area.Y }))
		runChecks(t, numberCases(0, 2000, 3, i, func(t *api.AmTask) *int { return &t.Settings[i].Scale }))
	}
	runChecks(t, []checkCase{{func(t *api.AmTask) { t.Settings[1].Scale = -1; t.Settings[2].Area.X.Hi = 0 }, 3, 1, api.ErrRange}})
}

// P3.1
func TestCheckRest(t *testing.T) {
	const far = 500000000
	runChecks(t, numberCases(-far, far, 4, 0, func(t *api.AmTask) *int { return &t.Target.X }))
	runChecks(t, numberCases(-far, far, 4, 0, func(t *api.AmTask) *int { return &t.Target.Y }))
	runChecks(t, spanCases(far, 4, 0, func(t *api.AmTask) *api.Span { return &t.Allowed.X }))
	runChecks(t, spanCases(far, 4, 0, func(t *api.AmTask) *api.Span { return &t.Allowed.Y }))
	runChecks(t, numberCases(0, 1000000000, 4, 0, func(t *api.AmTask) *int { return &t.Gain }))
	runChecks(t, numberCases(0, 6000, 4, 0, func(t *api.AmTask) *int { return &t.Turn }))
	runChecks(t, numberCases(0, 6000, 4, 0, func(t *api.AmTask) *int { return &t.Freeze }))
}

// allErrors returns the errors of all functions with bands, of arguments that have others behind.
func allErrors(x api.AmTask, l []api.WnBand) []api.Errno {
	_, _, e1 := aim.Weigh(x, l)
	_, e2 := aim.Impact(x, l, -1)
	_, e3 := aim.Allowed(x, l)
	_, e4 := aim.Miss(x, l, -1)
	_, e5 := aim.Best(x, l)
	at, e6 := aim.Accept(x, l, api.AmChoice{Setting: -1})
	if at != 0 {
		e6 = -1
	}
	return []api.Errno{e1, e2, e3, e4, e5, e6}
}

// The errors that come first: that of Check, that of wind.CheckBands, and ErrNone.
func TestFirstErrors(t *testing.T) {
	two := func(to int) []api.WnBand {
		l := exampleBands()
		l[1].To = to
		return l
	}
	bad := example()
	bad.Settings[2].Scale = -1
	long := example()
	long.Settings = nil
	for i, c := range []struct {
		x api.AmTask
		l []api.WnBand
		e api.Errno
	}{
		{bad, nil, api.ErrRange},
		{bad, two(999999), api.ErrRange},
		{long, exampleBands()[1:], api.ErrLong},
		{example(), nil, api.ErrLong},
		{example(), []api.WnBand{}, api.ErrLong},
		{example(), exampleBands()[1:], api.ErrArg},
		{example(), two(200000), api.ErrRange},
		{example(), []api.WnBand{band(0, 200000, span(1, 0), span(0, 0))}, api.ErrRange},
		{example(), exampleBands()[:1], api.ErrNone},
		{example(), two(999999), api.ErrNone},
		{example(), two(200001), api.ErrNone},
	} {
		for j, e := range allErrors(c.x, c.l) {
			if e != c.e {
				t.Errorf("%d: the error of function %d is %d", i, j, e)
			}
		}
	}
	for _, to := range []int{1000000, 1000001, api.MaxWnHeight} {
		if _, _, e := aim.Weigh(example(), two(to)); e != api.OK {
			t.Errorf("Weigh with bands up to %d: %d", to, e)
		}
	}
	// Bands that reach higher, whose last one has no height in common with a weight.
	l := append(exampleBands(), band(1000000, 2000000, only(20000), only(20000)))
	if x, y, e := aim.Weigh(example(), l); x != span(830000, 2084000) || y != span(-570000, 295000) || e != api.OK {
		t.Errorf("Weigh = %v, %v, %d", x, y, e)
	}
}
