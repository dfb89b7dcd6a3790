package aim_test

import (
	"math"
	"testing"

	"hangfire/aim"
	"hangfire/api"
)

func out(side int) api.AmReason { return api.AmReason{Kind: api.AmOut, At: side} }

func far(corner int) api.AmReason { return api.AmReason{Kind: api.AmFar, At: corner} }

var own = api.AmReason{Kind: api.AmOwn}

func choice(setting, miss int, others ...api.AmReason) api.AmChoice {
	return api.AmChoice{Setting: setting, Miss: miss, Others: others}
}

// The examples of the chapter.
func TestExamplesOfBest(t *testing.T) {
	l := exampleBands()
	for _, c := range []struct {
		hi   int
		want api.AmChoice
		e    api.Errno
	}{
		{25000, choice(2, 85, far(1), far(0), own), api.OK},
		{21000, choice(1, 100, out(1), own, out(1)), api.OK},
		{19000, choice(0, 0), api.ErrDown},
	} {
		x := example()
		x.Allowed.X.Hi = c.hi
		if got, e := aim.Best(x, l); !sameChoice(got, c.want) || e != c.e {
			t.Errorf("Best = %v, %d, if Allowed ends at %d", got, e, c.hi)
		}
	}
	if at, e := aim.Accept(example(), l, choice(2, 85, far(0), far(0), own)); at != 0 || e != api.AmErrReason {
		t.Errorf("Accept = %d, %d", at, e)
	}
}

// places is a task of settings whose areas are one place each, without wind, and the target 0.
func places(l ...api.Place) api.AmTask {
	x := alone(only(0), api.AmSetting{})
	x.Settings = nil
	for _, p := range l {
		x.Settings = append(x.Settings, point(p.X, p.Y, 1000))
	}
	return x
}

// still is bands without wind.
func still() []api.WnBand { return []api.WnBand{band(0, 10, only(0), only(0))} }

// P3.4: the first one of several with the least miss that are allowed.
func TestBestIsFirst(t *testing.T) {
	near, same, away := api.Place{X: 1000}, api.Place{Y: -1}, api.Place{X: 1001}
	for i, c := range []struct {
		x    api.AmTask
		want api.AmChoice
	}{
		{places(near), choice(0, 1, own)},
		{places(near, same), choice(0, 1, own, far(0))},
		{places(same, near), choice(0, 1, own, far(0))},
		{places(away, near, same), choice(1, 1, far(0), own, far(0))},
		{places(away, same, near, away), choice(1, 1, far(0), own, far(0), far(0))},
		{places(away, away), choice(0, 4, own, far(0))},
		{places(api.Place{}, near), choice(0, 0, own, far(0))},
	} {
		if got, e := aim.Best(c.x, still()); !sameChoice(got, c.want) || e != api.OK {
			t.Errorf("%d: Best = %v, %d", i, got, e)
		}
	}
	// A setting with a lesser miss that is not allowed.
	x := places(api.Place{X: 500}, away, near)
	x.Allowed.X.Lo = 600
	if got, e := aim.Best(x, still()); !sameChoice(got, choice(2, 1, out(0), far(0), own)) || e != api.OK {
		t.Errorf("Best = %v, %d", got, e)
	}
}

// square returns a setting whose area has all places that are at most so far from one, along each axis.
func square(x, y, wide int) api.AmSetting {
	return api.AmSetting{Area: area(span(x-wide, x+wide), span(y-wide, y+wide)), Scale: 1000}
}

// P3.4: the least side, and the least corner.
func TestLeastReasons(t *testing.T) {
	for i, c := range []struct {
		other api.AmSetting
		want  api.AmReason
	}{
		{square(-20000, 0, 1), out(0)},
		{square(20000, 0, 1), out(1)},
		{square(0, -20000, 1), out(2)},
		{square(0, 20000, 1), out(3)},
		{square(0, 0, 20000), out(0)},
		{square(20000, 20000, 1), out(1)},
		{square(20000, -20000, 1), out(1)},
		{square(-20000, -20000, 1), out(0)},
		{api.AmSetting{Area: area(only(0), span(-20000, 20000))}, out(2)},
		{api.AmSetting{Area: area(span(0, 20000), span(-20000, 0))}, out(1)},
		{square(0, 0, 3000), far(0)},
		{square(-2000, 0, 1000), far(0)},
		{square(2000, 0, 1000), far(1)},
		{square(0, -2000, 1000), far(0)},
		{square(0, 2000, 1000), far(2)},
		{square(2000, 2000, 1000), far(1)}, // its corners have the misses 2, 10, 10 and 18
		{square(1000, 1000, 1000), far(3)}, // 0, 4, 4 and 8
		{square(-1000, 1000, 1000), far(2)},
		{square(1000, -1000, 1000), far(1)},
	} {
		// The best one has the miss 5, as the place 1000, 2000.
		x := places(api.Place{X: 1000, Y: 2000})
		x.Settings = append(x.Settings, c.other)
		x.Allowed = area(span(-10000, 10000), span(-10000, 10000))
		if got, e := aim.Best(x, still()); !sameChoice(got, choice(0, 5, own, c.want)) || e != api.OK {
			t.Errorf("%d: Best = %v, %d", i, got, e)
		}
	}
	// An equal miss is great enough behind the best one, but not before it.
	x := places(api.Place{X: 1000, Y: 2000})
	other := api.AmSetting{Area: area(span(-2000, 3000), only(1000))} // the misses 5 and 10
	x.Settings = append(x.Settings, other)
	if got, e := aim.Best(x, still()); !sameChoice(got, choice(0, 5, own, far(0))) || e != api.OK {
		t.Errorf("Best = %v, %d", got, e)
	}
	x.Settings[0], x.Settings[1] = x.Settings[1], x.Settings[0]
	if got, e := aim.Best(x, still()); !sameChoice(got, choice(1, 5, far(1), own)) || e != api.OK {
		t.Errorf("Best = %v, %d", got, e)
	}
}

// P3.5
func TestAccept(t *testing.T) {
	x := example()
	for i, c := range []struct {
		c  api.AmChoice
		at int
		e  api.Errno
	}{
		{choice(2, 85, far(1), far(0), own), 0, api.OK},
		// Other corners that have a miss that is great enough: A has 61, 100, 61, 100, B 100, 61, 100, 61.
		{choice(2, 85, far(3), far(2), own), 0, api.OK},
		{choice(2, 85, far(0), far(0), own), 0, api.AmErrReason},
		{choice(2, 85, far(2), far(0), own), 0, api.AmErrReason},
		{choice(2, 85, far(1), far(1), own), 1, api.AmErrReason},
		{choice(2, 85, far(1), far(3), own), 1, api.AmErrReason},
		{choice(2, 85, far(0), far(1), far(1)), 0, api.AmErrReason},
		// Which setting.
		{choice(-1, 85, far(1), far(0), own), 0, api.AmErrSetting},
		{choice(3, 85, far(1), far(0), own), 0, api.AmErrSetting},
		{choice(math.MinInt, 85), 0, api.AmErrSetting},
		{choice(math.MaxInt, 85), 0, api.AmErrSetting},
		{choice(0, 100, own, far(0), far(0)), 2, api.AmErrReason},
		{choice(0, 85, own, far(0), far(0)), 0, api.AmErrMiss},
		// Its miss.
		{choice(2, 84, far(1), far(0), own), 0, api.AmErrMiss},
		{choice(2, 86, far(1), far(0), own), 0, api.AmErrMiss},
		{choice(2, -85), 0, api.AmErrMiss},
		// How many.
		{choice(2, 85), 0, api.ErrArg},
		{choice(2, 85, far(1), far(0)), 0, api.ErrArg},
		{choice(2, 85, far(0), far(0), own, own), 0, api.ErrArg},
		// Kinds.
		{choice(2, 85, own, far(0), own), 0, api.AmErrReason},
		{choice(2, 85, far(1), own, own), 1, api.AmErrReason},
		{choice(2, 85, far(1), far(0), far(0)), 2, api.AmErrReason},
		{choice(2, 85, far(1), far(0), far(1)), 2, api.AmErrReason},
		{choice(2, 85, far(1), far(0), out(0)), 2, api.AmErrReason},
		{choice(2, 85, out(1), far(0), own), 0, api.AmErrReason},
		{choice(2, 85, api.AmReason{Kind: 3, At: 1}, far(0), own), 0, api.AmErrReason},
		{choice(2, 85, api.AmReason{Kind: -1, At: 1}, far(0), own), 0, api.AmErrReason},
		{choice(2, 85, far(1), far(0), api.AmReason{Kind: 3}), 2, api.AmErrReason},
		// At.
		{choice(2, 85, far(-1), far(0), own), 0, api.AmErrReason},
		{choice(2, 85, far(4), far(0), own), 0, api.AmErrReason},
		{choice(2, 85, far(1), far(math.MaxInt), own), 1, api.AmErrReason},
		{choice(2, 85, far(1), far(math.MinInt), own), 1, api.AmErrReason},
		{choice(2, 85, far(1), far(0), api.AmReason{At: 1}), 2, api.AmErrReason},
		{choice(2, 85, far(1), far(0), api.AmReason{At: -1}), 2, api.AmErrReason},
	} {
		if at, e := aim.Accept(x, exampleBands(), c.c); at != c.at || e != c.e {
			t.Errorf("%d: Accept = %d, %d", i, at, e)
		}
	}
}

// P3.5: settings that are not allowed.
func TestAcceptOut(t *testing.T) {
	x := example()
	x.Allowed.X.Hi = 21000
	for i, c := range []struct {
		c  api.AmChoice
		at int
		e  api.Errno
	}{
		{choice(1, 100, out(1), own, out(1)), 0, api.OK},
		{choice(1, 100, out(1), own, far(1)), 2, api.AmErrReason}, // 85
		{choice(1, 100, far(1), own, out(1)), 0, api.AmErrReason}, // 100 too, but before it
		{choice(1, 100, out(0), own, out(1)), 0, api.AmErrReason},
		{choice(1, 100, out(2), own, out(1)), 0, api.AmErrReason},
		{choice(1, 100, out(3), own, out(1)), 0, api.AmErrReason},
		{choice(1, 100, out(1), own, out(0)), 2, api.AmErrReason},
		{choice(1, 100, out(-1), own, out(1)), 0, api.AmErrReason},
		{choice(1, 100, out(4), own, out(1)), 0, api.AmErrReason},
		{choice(2, 85, far(1), far(0), own), 0, api.AmErrSetting},
		{choice(0, 1), 0, api.AmErrSetting},
	} {
		if at, e := aim.Accept(x, exampleBands(), c.c); at != c.at || e != c.e {
			t.Errorf("%d: Accept = %d, %d", i, at, e)
		}
	}
	// Of a setting that leaves Allowed at each side, and is far at each corner, both may be said.
	y := places(api.Place{X: 1000})
	y.Settings = append(y.Settings, square(0, 0, 3000))
	y.Allowed = area(span(-1500, 1500), span(-1500, 1500))
	for at := range 4 {
		for _, r := range []api.AmReason{out(at), far(at)} {
			if at, e := aim.Accept(y, still(), choice(0, 1, own, r)); at != 0 || e != api.OK {
				t.Errorf("Accept of %v = %d, %d", r, at, e)
			}
		}
	}
}

// P3.5: an equal miss is enough for a setting behind that of the choice, but not before it.
func TestAcceptEqual(t *testing.T) {
	x := places(api.Place{X: 1000}, api.Place{Y: 1000}, api.Place{X: -1000})
	for i, c := range []struct {
		c  api.AmChoice
		at int
		e  api.Errno
	}{
		{choice(0, 1, own, far(3), far(1)), 0, api.OK},
		{choice(1, 1, far(0), own, far(0)), 0, api.AmErrReason},
		{choice(2, 1, far(0), far(0), own), 0, api.AmErrReason},
	} {
		if at, e := aim.Accept(x, still(), c.c); at != c.at || e != c.e {
			t.Errorf("%d: Accept = %d, %d", i, at, e)
		}
	}
}
