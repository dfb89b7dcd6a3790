package aim_test

import (
	"math"
	"slices"
	"testing"

	"hangfire/aim"
	"hangfire/api"
)

// alone is a task with one weight up to 10, one setting, and all as great as it may be.
func alone(k api.Span, s api.AmSetting) api.AmTask {
	const far = api.MaxAmPlace
	return api.AmTask{
		Response: []api.AmBand{{To: 10, K: k}}, Settings: []api.AmSetting{s},
		Allowed: area(span(-far, far), span(-far, far)),
	}
}

// The examples of the chapter.
func TestExamplesOfAreas(t *testing.T) {
	x, l := example(), exampleBands()
	if wx, wy, e := aim.Weigh(x, l); wx != span(830000, 2084000) || wy != span(-570000, 295000) || e != api.OK {
		t.Errorf("Weigh = %v, %v, %d", wx, wy, e)
	}
	for i, want := range []api.Area{
		area(span(10830, 22084), span(-5570, 5295)),
		area(span(7245, 19126), span(-5855, 5443)),
		area(span(9830, 21084), span(-5570, 5295)),
	} {
		if a, e := aim.Impact(x, l, i); a != want || e != api.OK {
			t.Errorf("Impact of %d = %v, %d", i, a, e)
		}
	}
	for i, want := range []int{100, 100, 85} {
		if n, e := aim.Miss(x, l, i); n != want || e != api.OK {
			t.Errorf("Miss of %d = %d, %d", i, n, e)
		}
	}
	if l, e := aim.Allowed(x, l); !slices.Equal(l, []int{0, 1, 2}) || e != api.OK {
		t.Errorf("Allowed = %v, %d", l, e)
	}
}

// P3.2: the signs of both factors.
func TestWeighSigns(t *testing.T) {
	for i, c := range []struct{ k, wind, want api.Span }{
		{span(2, 3), span(5, 7), span(10, 21)},
		{span(2, 3), span(-7, -5), span(-21, -10)},
		{span(-3, -2), span(5, 7), span(-21, -10)},
		{span(-3, -2), span(-7, -5), span(10, 21)},
		{span(-2, 3), span(5, 7), span(-14, 21)},
		{span(-2, 3), span(-7, -5), span(-21, 14)},
		{span(2, 3), span(-5, 7), span(-15, 21)},
		{span(-3, -2), span(-5, 7), span(-21, 15)},
		{span(-2, 3), span(-5, 7), span(-15, 21)},
		{span(-3, 2), span(-7, 2), span(-14, 21)},
		{span(-3, 2), span(-2, 7), span(-21, 14)},
		{span(0, 0), span(-20000, 20000), span(0, 0)},
	} {
		x := alone(c.k, api.AmSetting{})
		if wx, wy, e := aim.Weigh(x, []api.WnBand{band(0, 10, c.wind, only(1))}); wx != c.want || wy != c.k || e != api.OK {
			t.Errorf("%d: Weigh = %v, %v, %d", i, wx, wy, e)
		}
		if wx, wy, e := aim.Weigh(x, []api.WnBand{band(0, 10, only(-1), c.wind)}); wx != span(-c.k.Hi, -c.k.Lo) || wy != c.want || e != api.OK {
			t.Errorf("%d: Weigh = %v, %v, %d", i, wx, wy, e)
		}
	}
}

// P3.2: the mean wind has the winds of all bands with a height in common, and of no other one.
func TestWeighHeights(t *testing.T) {
	l := []api.WnBand{
		band(0, 10, only(1), only(-1)), band(10, 20, only(10), only(-10)), band(20, 30, only(-100), only(100)), band(30, 40, only(1000), only(-1000)),
	}
	for i, c := range []struct {
		from, to int
		x, y     api.Span
	}{
		{0, 10, only(1), only(-1)},
		{0, 9, only(1), only(-1)},
		{0, 1, only(1), only(-1)},
		{0, 11, span(1, 10), span(-10, -1)},
		{0, 40, span(-100, 1000), span(-1000, 100)},
		{9, 10, only(1), only(-1)},
		{9, 11, span(1, 10), span(-10, -1)},
		{10, 20, only(10), only(-10)},
		{11, 19, only(10), only(-10)},
		{10, 21, span(-100, 10), span(-10, 100)},
		{19, 31, span(-100, 1000), span(-1000, 100)},
		{9, 21, span(-100, 10), span(-10, 100)},
		{20, 30, only(-100), only(100)},
		{39, 40, only(1000), only(-1000)},
		{30, 40, only(1000), only(-1000)},
	} {
		x := alone(only(1), api.AmSetting{})
		x.Response = []api.AmBand{{To: c.to, K: only(1)}}
		if c.from > 0 {
			x.Response = []api.AmBand{{To: c.from}, {From: c.from, To: c.to, K: only(1)}}
		}
		if wx, wy, e := aim.Weigh(x, l); wx != c.x || wy != c.y || e != api.OK {
			t.Errorf("%d: Weigh = %v, %v, %d", i, wx, wy, e)
		}
	}
}

// P3.3: quotients are rounded down for the Lo, and up for the Hi, on both sides of 0.
func TestImpactRounds(t *testing.T) {
	for i, c := range []struct {
		wind  int // by a weight of one thousandth of a mm
		scale int
		want  api.Span
	}{
		{1000, 1000, only(1)},
		{1000, 999, span(0, 1)},
		{999, 1000, span(0, 1)},
		{1001, 1000, span(1, 2)},
		{1, 1, span(0, 1)},
		{0, 2000, only(0)},
		{-1, 1, span(-1, 0)},
		{-999, 1000, span(-1, 0)},
		{-1000, 1000, only(-1)},
		{-1001, 1000, span(-2, -1)},
		{20000, 2000, only(40)},
		{-20000, 2000, only(-40)},
		{7, 0, only(0)},
	} {
		x := alone(only(1), point(70, -90, c.scale))
		if a, e := aim.Impact(x, []api.WnBand{band(0, 10, only(c.wind), only(-c.wind))}, 0); a != area(span(70+c.want.Lo, 70+c.want.Hi), span(-90-c.want.Hi, -90-c.want.Lo)) || e != api.OK {
			t.Errorf("%d: Impact = %v, %d", i, a, e)
		}
	}
}

// P3.3: begun metres.
func TestMissCounts(t *testing.T) {
	for _, c := range []struct{ x, y, want int }{
		{0, 0, 0}, {1, 0, 1}, {0, 1, 1}, {-1, 0, 1}, {0, -1, 1}, {1, 1, 2}, {999, 0, 1}, {1000, 0, 1}, {1001, 0, 4}, {-1000, 0, 1}, {-1001, 0, 4},
		{0, 1000, 1}, {0, 1001, 4}, {0, -1000, 1}, {0, -1001, 4}, {2000, -2001, 4 + 9}, {-2001, 3000, 9 + 9}, {400000000, -300000000, 250000000000},
	} {
		for _, target := range []api.Place{{}, {X: 7300, Y: -4200}, {X: -7300, Y: 4200}} {
			x := alone(only(0), point(c.x+target.X, c.y+target.Y, 1000))
			x.Target = target
			if n, e := aim.Miss(x, still(), 0); n != c.want || e != api.OK {
				t.Errorf("Miss = %d, %d, and not %d for %v", n, e, c.want, target)
			}
		}
	}
	// The greatest one of four corners: each of them.
	for i, target := range []api.Place{{X: 9000, Y: 9000}, {X: 1000, Y: 9000}, {X: 9000, Y: 1000}, {X: 1000, Y: 1000}} {
		x := alone(only(0), api.AmSetting{Area: area(span(0, 10000), span(0, 10000))})
		x.Target = target
		if n, e := aim.Miss(x, still(), 0); n != 162 || e != api.OK {
			t.Errorf("%d: Miss = %d, %d", i, n, e)
		}
	}
}

// P3.3: which is no setting, and whether it is allowed.
func TestWhichSetting(t *testing.T) {
	x, l := example(), exampleBands()
	for _, i := range []int{-1, 3, math.MinInt, math.MaxInt} {
		if a, e := aim.Impact(x, l, i); a != (api.Area{}) || e != api.ErrNone {
			t.Errorf("Impact of %d = %v, %d", i, a, e)
		}
		if n, e := aim.Miss(x, l, i); n != 0 || e != api.ErrNone {
			t.Errorf("Miss of %d = %d, %d", i, n, e)
		}
	}
	x.Allowed.X.Hi = 21000
	if n, e := aim.Miss(x, l, 0); n != 100 || e != api.OK {
		t.Errorf("Miss of a setting that is not allowed = %d, %d", n, e)
	}
	if a, e := aim.Impact(x, l, 0); a != area(span(10830, 22084), span(-5570, 5295)) || e != api.OK {
		t.Errorf("Impact of a setting that is not allowed = %v, %d", a, e)
	}
}

// P3.3: the sides of Allowed, to a mm.
func TestAllowedSides(t *testing.T) {
	l := exampleBands()
	for i, c := range []struct {
		in   api.Area
		want []int
	}{
		{area(span(7245, 22084), span(-5855, 5443)), []int{0, 1, 2}},
		{area(span(7246, 22084), span(-5855, 5443)), []int{0, 2}},
		{area(span(7245, 22083), span(-5855, 5443)), []int{1, 2}},
		{area(span(7245, 22084), span(-5854, 5443)), []int{0, 2}},
		{area(span(7245, 22084), span(-5855, 5442)), []int{0, 2}},
		{area(span(10830, 22084), span(-5570, 5295)), []int{0}},
		{area(span(10831, 22084), span(-5570, 5295)), nil},
		{area(span(10830, 22083), span(-5570, 5295)), nil},
		{area(span(10830, 22084), span(-5569, 5295)), nil},
		{area(span(10830, 22084), span(-5570, 5294)), nil},
	} {
		x := example()
		x.Allowed = c.in
		if l, e := aim.Allowed(x, l); !slices.Equal(l, c.want) || e != api.OK {
			t.Errorf("%d: Allowed = %v, %d", i, l, e)
		}
	}
}

// P3.2, P3.3: the greatest numbers.
func TestGreatest(t *testing.T) {
	const far = api.MaxAmPlace
	x := alone(span(-10000000, 10000000), api.AmSetting{Area: area(span(-far, far), span(-far, far)), Scale: 2000})
	x.Response = nil
	for i := range 20 {
		x.Response = append(x.Response, weight(i, i+1, -10000000, 10000000))
	}
	x.Target = api.Place{X: -far, Y: far}
	l := []api.WnBand{band(0, 20, span(-20000, 20000), only(20000))}
	all := span(-4000000000000, 4000000000000)
	if wx, wy, e := aim.Weigh(x, l); wx != all || wy != all || e != api.OK {
		t.Errorf("Weigh = %v, %v, %d", wx, wy, e)
	}
	away := span(-8500000000, 8500000000)
	if a, e := aim.Impact(x, l, 0); a != area(away, away) || e != api.OK {
		t.Errorf("Impact = %v, %d", a, e)
	}
	if n, e := aim.Miss(x, l, 0); n != 2*9000000*9000000 || e != api.OK {
		t.Errorf("Miss = %d, %d", n, e)
	}
	if c, e := aim.Best(x, l); !sameChoice(c, api.AmChoice{}) || e != api.ErrDown {
		t.Errorf("Best = %v, %d", c, e)
	}
}
