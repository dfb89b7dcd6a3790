package hazard_test

import (
	"math"
	"testing"

	"hangfire/api"
	"hangfire/hazard"
)

// over is an impact in an area.
func over(a api.Area) api.FlImpact { return api.FlImpact{Area: a, At: span(100, 200)} }

// P4.4
func TestRisk(t *testing.T) {
	for i, c := range []struct {
		l    []api.FlImpact
		laws []api.HzLaw
		r    api.HzRisk
		e    api.Errno
	}{
		{[]api.FlImpact{over(area(-1, 0, 0, 0))}, []api.HzLaw{law(300000)}, api.HzRisk{Num: 15000000, Den: 1000000000000}, api.OK},
		{[]api.FlImpact{over(wide())}, []api.HzLaw{law(300000)}, api.HzRisk{Num: 667000000, Den: 1000000000000}, api.OK},
		{[]api.FlImpact{over(wide()), over(area(-1, 0, 0, 0))}, []api.HzLaw{{Lethal: 2, Cap: 300000}, {Lethal: 3, Cap: 1000000}}, api.HzRisk{Num: 148400000, Den: 1000000000000}, api.OK},
		{[]api.FlImpact{over(wide())}, []api.HzLaw{{Cap: 300000}}, api.HzRisk{Den: 1000000000000}, api.OK},
		{nil, nil, api.HzRisk{Den: 1000000000000}, api.OK},
		{[]api.FlImpact{}, []api.HzLaw{}, api.HzRisk{Den: 1000000000000}, api.OK},
		{make([]api.FlImpact, 12), make([]api.HzLaw, 12), api.HzRisk{}, api.ErrArg}, // of the law
		{make([]api.FlImpact, 13), make([]api.HzLaw, 13), api.HzRisk{}, api.ErrLong},
		{make([]api.FlImpact, 13), nil, api.HzRisk{}, api.ErrLong},
		{make([]api.FlImpact, 1), nil, api.HzRisk{}, api.ErrArg},
		{nil, make([]api.HzLaw, 1), api.HzRisk{}, api.ErrArg},
		{[]api.FlImpact{{Piece: -1}}, make([]api.HzLaw, 2), api.HzRisk{}, api.ErrArg},
		{[]api.FlImpact{{Piece: -1}}, []api.HzLaw{{Cap: 0}}, api.HzRisk{}, api.ErrRange},
		{[]api.FlImpact{over(area(0, 0, 0, 0))}, []api.HzLaw{law(300000)}, api.HzRisk{}, api.ErrDown},
		// The first impact with an error decides.
		{[]api.FlImpact{over(area(0, 0, 0, 0)), {Piece: -1}}, []api.HzLaw{law(300000), {}}, api.HzRisk{}, api.ErrDown},
		{[]api.FlImpact{over(wide()), {Piece: -1}}, []api.HzLaw{{}, law(300000)}, api.HzRisk{}, api.ErrArg},
		{[]api.FlImpact{over(wide()), {Piece: -1}, over(area(0, 0, 0, 0))}, []api.HzLaw{law(1000000), law(1), law(1)}, api.HzRisk{}, api.ErrRange},
	} {
		if r, e := hazard.Risk(example(), c.l, c.laws); r != c.r || e != c.e {
			t.Errorf("%d: Risk = %v, %d", i, r, e)
		}
	}
}

// P4.4: the greatest numbers there are.
func TestGreatestRisk(t *testing.T) {
	m := api.HzMap{Size: 100000, Cols: 1, Rows: 1, People: []int{1000000}}
	var l []api.FlImpact
	var laws []api.HzLaw
	for range 12 {
		l = append(l, over(area(0, 0, 0, 0)))
		laws = append(laws, api.HzLaw{Lethal: 10000, Cap: 1000000})
	}
	if r, e := hazard.Risk(m, l, laws); r.Num != 120000000000000000 || r.Den != 10000000000000000 || e != api.OK {
		t.Errorf("Risk = %v, %d", r, e)
	}
	m.Size = 1
	if r, e := hazard.Risk(m, l[:1], laws[:1]); r.Num != 10000000000000000 || r.Den != 1000000 || e != api.OK {
		t.Errorf("Risk = %v, %d", r, e)
	}
}

// impactCases are impacts, and whether they are valid.
func impactCases() map[api.FlImpact]bool {
	l := map[api.FlImpact]bool{}
	set := func(valid bool, f func(x *api.FlImpact)) {
		x := over(wide())
		f(&x)
		l[x] = valid
	}
	set(true, func(x *api.FlImpact) {})
	for n, valid := range map[int]bool{0: true, math.MaxInt: true, -1: false, math.MinInt: false} {
		set(valid, func(x *api.FlImpact) { x.Piece = n })
	}
	for s, valid := range map[api.Span]bool{
		span(0, 0): true, span(0, 3000): true, span(0, 3001): false, span(97000, 100000): true, span(96999, 100000): false, span(100000, 100000): true, span(99999, 100001): false, span(100001, 100001): false,
		span(-1, 0): false, span(5, 4): false, span(math.MinInt, math.MaxInt): false, span(math.MaxInt, math.MinInt): false, span(math.MinInt, 0): false, span(0, math.MaxInt): false,
	} {
		set(valid, func(x *api.FlImpact) { x.At = s })
	}
	for s, valid := range map[api.Span]bool{
		span(-2000000000, 2000000000): true, span(-2000000001, 0): false, span(0, 2000000001): false, span(2000000000, 2000000000): true, span(2000000001, 2000000001): false, span(1, 0): false,
		span(math.MinInt, math.MaxInt): false, span(math.MaxInt, math.MinInt): false,
	} {
		set(valid, func(x *api.FlImpact) { x.Area.X = s })
		set(valid, func(x *api.FlImpact) { x.Area.Y = s })
	}
	return l
}

// P4.4, P4.6, P4.7, P4.8: impacts that are not valid.
func TestImpacts(t *testing.T) {
	for x, valid := range impactCases() {
		want := map[bool]api.Errno{true: api.OK, false: api.ErrRange}[valid]
		_, e1 := hazard.Risk(example(), []api.FlImpact{x}, []api.HzLaw{law(1000000)})
		_, e2 := hazard.Ships([]api.FlImpact{x}, nil)
		_, e3 := hazard.Ships([]api.FlImpact{over(wide()), x}, nil)
		_, e4 := hazard.Notice(x, 1, 0, 0)
		_, e5 := hazard.Covers(nil, x)
		if e1 != want || e2 != want || e3 != want || e4 != want || e5 != want {
			t.Errorf("%v: %d, %d, %d, %d, %d", x, e1, e2, e3, e4, e5)
		}
	}
}

// P4.4
func TestWithin(t *testing.T) {
	const most = 1000000000000000000
	risk := func(num, den int) api.HzRisk { return api.HzRisk{Num: num, Den: den} }
	for _, c := range []struct {
		a, b   api.HzRisk
		within bool
		e      api.Errno
	}{
		{risk(1, 2), risk(1, 2), true, api.OK}, {risk(1, 2), risk(2, 4), true, api.OK}, {risk(2, 4), risk(1, 2), true, api.OK}, {risk(1, 3), risk(1, 2), true, api.OK}, {risk(1, 2), risk(1, 3), false, api.OK},
		{risk(0, 1), risk(0, most), true, api.OK}, {risk(0, most), risk(0, 1), true, api.OK}, {risk(1, most), risk(0, 1), false, api.OK}, {risk(0, 1), risk(1, most), true, api.OK},
		// The products differ by little, and are far above what an int can be.
		{risk(most-1, most), risk(most-2, most-1), false, api.OK}, {risk(most-2, most-1), risk(most-1, most), true, api.OK}, {risk(most, most-1), risk(most-1, most-2), true, api.OK}, {risk(most-1, most-2), risk(most, most-1), false, api.OK},
		{risk(most, 1), risk(most, 1), true, api.OK}, {risk(most, 1), risk(most-1, 1), false, api.OK}, {risk(most, most), risk(1, 1), true, api.OK}, {risk(1, 1), risk(most, most), true, api.OK},
		{risk(most, 1), risk(1, most), false, api.OK}, {risk(1, most), risk(most, 1), true, api.OK}, {risk(6, most), risk(3, most/2), true, api.OK}, {risk(most/3, 7), risk(most/3+1, 7), true, api.OK},
		{risk(-1, 1), risk(1, 1), false, api.ErrArg}, {risk(1, 0), risk(1, 1), false, api.ErrArg}, {risk(1, -1), risk(1, 1), false, api.ErrArg}, {risk(most+1, 1), risk(1, 1), false, api.ErrArg}, {risk(1, most+1), risk(1, 1), false, api.ErrArg},
		{risk(1, 1), risk(-1, 1), false, api.ErrArg}, {risk(1, 1), risk(1, 0), false, api.ErrArg}, {risk(1, 1), risk(1, -1), false, api.ErrArg}, {risk(1, 1), risk(most+1, 1), false, api.ErrArg}, {risk(1, 1), risk(1, most+1), false, api.ErrArg},
		{risk(0, 0), risk(0, 0), false, api.ErrArg}, {risk(math.MinInt, math.MinInt), risk(1, 1), false, api.ErrArg}, {risk(1, 1), risk(math.MaxInt, math.MaxInt), false, api.ErrArg},
	} {
		if within, e := hazard.Within(c.a, c.b); within != c.within || e != c.e {
			t.Errorf("Within of %v, %v = %t, %d", c.a, c.b, within, e)
		}
	}
}
