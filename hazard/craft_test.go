package hazard_test

import (
	"math"
	"strings"
	"testing"

	"hangfire/api"
	"hangfire/hazard"
)

// craftCase is a change of the ship of the examples, and what CheckCraft returns of it.
type craftCase struct {
	change func(c *api.HzCraft)
	at     int
	e      api.Errno
}

func runCrafts(t *testing.T, l []craftCase) {
	t.Helper()
	for i, x := range l {
		c := ferry()
		x.change(&c)
		if at, e := hazard.CheckCraft(c); at != x.at || e != x.e {
			t.Errorf("%d: CheckCraft = %d, %d", i, at, e)
		}
	}
}

// numberCases sets a number, which is from least to most, in all ways; if it is not as stated, the error has an index.
func numberCases(least, most, at int, of func(c *api.HzCraft) *int) []craftCase {
	set := func(n int) craftCase {
		x := craftCase{change: func(c *api.HzCraft) { *of(c) = n }}
		if n < least || n > most {
			x.at, x.e = at, api.ErrRange
		}
		return x
	}
	return []craftCase{set(least), set(most), set(least - 1), set(most + 1), set(math.MinInt), set(math.MaxInt)}
}

// sights returns n sights, one a tick.
func sights(n int) []api.HzSight {
	var l []api.HzSight
	for i := range n {
		l = append(l, api.HzSight{Tick: i})
	}
	return l
}

// P4.5
func TestCheckCraft(t *testing.T) {
	const far = 2000000000
	runCrafts(t, numberCases(0, 1000000, -1, func(c *api.HzCraft) *int { return &c.Speed }))
	runCrafts(t, numberCases(0, 1000000, -1, func(c *api.HzCraft) *int { return &c.Climb }))
	runCrafts(t, numberCases(0, far, -1, func(c *api.HzCraft) *int { return &c.High }))
	runCrafts(t, numberCases(0, far, -1, func(c *api.HzCraft) *int { c.High = far; return &c.Low }))
	for i := range 2 {
		runCrafts(t, numberCases(-far, far, i, func(c *api.HzCraft) *int { return &c.Sights[i].Place.X }))
		runCrafts(t, numberCases(-far, far, i, func(c *api.HzCraft) *int { return &c.Sights[i].Place.Y }))
		runCrafts(t, numberCases(0, far, i, func(c *api.HzCraft) *int { return &c.Sights[i].Height }))
		runCrafts(t, numberCases(0, far, i, func(c *api.HzCraft) *int { return &c.Sights[i].Error }))
	}
	runCrafts(t, numberCases(0, 100000, 0, func(c *api.HzCraft) *int { c.Sights = c.Sights[:1]; return &c.Sights[0].Tick }))
	runCrafts(t, []craftCase{
		{func(c *api.HzCraft) { c.Name = "" }, -1, api.ErrForm},
		{func(c *api.HzCraft) { c.Name = "Ferry" }, -1, api.ErrForm},
		{func(c *api.HzCraft) { c.Name = strings.Repeat("a", 25) }, -1, api.ErrForm},
		{func(c *api.HzCraft) { c.Name = strings.Repeat("a", 24) }, 0, api.OK},
		{func(c *api.HzCraft) { c.Low, c.High = 5, 5 }, 0, api.OK},
		{func(c *api.HzCraft) { c.Low, c.High = 5, 4 }, -1, api.ErrRange},
		{func(c *api.HzCraft) { c.Low, c.High = math.MaxInt, math.MinInt }, -1, api.ErrRange},
		{func(c *api.HzCraft) { c.Low, c.High = math.MinInt, math.MaxInt }, -1, api.ErrRange},
		{func(c *api.HzCraft) { c.Sights = nil }, -1, api.ErrLong},
		{func(c *api.HzCraft) { c.Sights = []api.HzSight{} }, -1, api.ErrLong},
		{func(c *api.HzCraft) { c.Sights = sights(1) }, 0, api.OK},
		{func(c *api.HzCraft) { c.Sights = sights(10) }, 0, api.OK},
		{func(c *api.HzCraft) { c.Sights = sights(11) }, -1, api.ErrLong},
		{func(c *api.HzCraft) { c.Sights[1].Tick = 101 }, 0, api.OK},
		{func(c *api.HzCraft) { c.Sights[1].Tick = 100 }, 1, api.ErrArg},
		{func(c *api.HzCraft) { c.Sights[1].Tick = -1 }, 1, api.ErrArg},
		{func(c *api.HzCraft) { c.Sights[1].Tick = math.MinInt }, 1, api.ErrArg},
		{func(c *api.HzCraft) { c.Sights[1].Tick = 100000 }, 0, api.OK},
		{func(c *api.HzCraft) { c.Sights[1].Tick = 100001 }, 1, api.ErrRange},
		{func(c *api.HzCraft) { c.Sights[0].Tick = math.MinInt }, 0, api.ErrRange},
		{func(c *api.HzCraft) { c.Sights[0].Tick = math.MaxInt }, 0, api.ErrRange},
		// The craft itself first, by its errors; then the first sight, and of its errors the one that is named first.
		{func(c *api.HzCraft) { c.Name, c.Speed, c.Sights = "", -1, nil }, -1, api.ErrForm},
		{func(c *api.HzCraft) { c.Speed, c.Sights = -1, nil }, -1, api.ErrRange},
		{func(c *api.HzCraft) { c.Climb, c.Sights[0].Error = -1, -1 }, -1, api.ErrRange},
		{func(c *api.HzCraft) { c.Sights = sights(11); c.Sights[0].Error = -1 }, -1, api.ErrLong},
		{func(c *api.HzCraft) { c.Sights[0].Error, c.Sights[1].Tick = -1, 100 }, 0, api.ErrRange},
		{func(c *api.HzCraft) { c.Sights[1].Error, c.Sights[1].Tick = -1, 100 }, 1, api.ErrArg},
		{func(c *api.HzCraft) { c.Sights = sights(5); c.Sights[3].Error, c.Sights[4].Tick = -1, 0 }, 3, api.ErrRange},
	})
}

// P4.5
func TestWhere(t *testing.T) {
	// Between its sights it can not be where both say so, but at 150, and then only at one height.
	apart := api.HzCraft{Name: "a", Speed: 10, Climb: 1, Low: 0, High: 100, Sights: []api.HzSight{{Tick: 100}, {Tick: 200, Place: api.Place{X: 1000}, Height: 100}}}
	far := apart
	far.Sights = []api.HzSight{apart.Sights[0], {Tick: 200, Place: api.Place{X: 1001}}}
	high := apart
	high.Sights = []api.HzSight{{Tick: 100, Height: 103, Error: 2}}
	low := apart
	low.Low, low.Sights = 50, []api.HzSight{{Tick: 100, Height: 40, Error: 8}}
	south := api.HzCraft{Name: "a", Speed: 1, Sights: []api.HzSight{{Tick: 10}, {Tick: 20, Place: api.Place{Y: -11}}}}
	for i, c := range []struct {
		c      api.HzCraft
		tick   int
		a      api.Area
		height api.Span
		e      api.Errno
	}{
		{ferry(), 100, area(-1000, 1000, -1000, 1000), only(0), api.OK},
		{ferry(), 150, area(15000, 26000, -25000, 25000), only(0), api.OK},
		{ferry(), 200, area(40000, 40000, 0, 0), only(0), api.OK},
		{ferry(), 250, area(15000, 65000, -25000, 25000), only(0), api.OK},
		{ferry(), 0, area(-51000, 51000, -51000, 51000), only(0), api.OK},
		{ferry(), 100000, area(40000-49900000, 40000+49900000, -49900000, 49900000), only(0), api.OK},
		{plane(), 10, area(-7100, -6900, 1900, 2100), span(2900, 3100), api.OK},
		{plane(), 0, area(-17100, 3100, -8100, 12100), span(2800, 3200), api.OK},
		{plane(), 500, area(-497100, 483100, -488100, 492100), span(500, 8000), api.OK},
		{plane(), 1000, area(-997100, 983100, -988100, 992100), span(500, 9000), api.OK},
		{apart, 100, area(0, 0, 0, 0), only(0), api.OK},
		{apart, 150, area(500, 500, -500, 500), only(50), api.OK},
		{apart, 151, area(510, 510, -490, 490), only(51), api.OK},
		{apart, 200, area(1000, 1000, 0, 0), only(100), api.OK},
		{far, 100, api.Area{}, api.Span{}, api.ErrDown},
		{far, 150, api.Area{}, api.Span{}, api.ErrDown},
		{far, 200, api.Area{}, api.Span{}, api.ErrDown},
		{far, 201, area(991, 1010, -10, 10), span(0, 1), api.OK},
		{far, 99, area(-9, 10, -10, 10), span(0, 1), api.OK},
		{south, 15, api.Area{}, api.Span{}, api.ErrDown},
		{south, 9, area(-1, 1, -1, 0), only(0), api.OK},
		{high, 100, api.Area{}, api.Span{}, api.ErrDown},
		{high, 101, area(-12, 12, -12, 12), only(100), api.OK},
		{high, 99, area(-12, 12, -12, 12), only(100), api.OK},
		{low, 101, api.Area{}, api.Span{}, api.ErrDown},
		{low, 102, area(-28, 28, -28, 28), only(50), api.OK},
		{ferry(), -1, api.Area{}, api.Span{}, api.ErrRange},
		{ferry(), 100001, api.Area{}, api.Span{}, api.ErrRange},
		{ferry(), math.MinInt, api.Area{}, api.Span{}, api.ErrRange},
		{ferry(), math.MaxInt, api.Area{}, api.Span{}, api.ErrRange},
		{api.HzCraft{}, -1, api.Area{}, api.Span{}, api.ErrForm},
		{api.HzCraft{Name: "a", Speed: -1}, -1, api.Area{}, api.Span{}, api.ErrRange},
		{api.HzCraft{Name: "a"}, -1, api.Area{}, api.Span{}, api.ErrLong},
		{api.HzCraft{Name: "a", Sights: make([]api.HzSight, 2)}, -1, api.Area{}, api.Span{}, api.ErrArg},
	} {
		if a, height, e := hazard.Where(c.c, c.tick); a != c.a || height != c.height || e != c.e {
			t.Errorf("%d: Where at %d = %v, %v, %d", i, c.tick, a, height, e)
		}
	}
	// The fastest craft that there is.
	fast := api.HzCraft{Name: "a", Speed: 1000000, Climb: 1000000, High: 2000000000, Sights: []api.HzSight{{Place: api.Place{X: 2000000000, Y: -2000000000}, Height: 2000000000, Error: 2000000000}}}
	if a, height, e := hazard.Where(fast, 100000); a != area(-100000000000, 104000000000, -104000000000, 100000000000) || height != span(0, 2000000000) || e != api.OK {
		t.Errorf("Where = %v, %v, %d", a, height, e)
	}
}
