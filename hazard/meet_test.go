package hazard_test

import (
	"math"
	"slices"
	"strconv"
	"testing"

	"hangfire/api"
	"hangfire/hazard"
)

// fleet returns n crafts with other names that are seen at a tick at 0, 0, and do not move.
func fleet(n, tick int) []api.HzCraft {
	var l []api.HzCraft
	for i := range n {
		l = append(l, api.HzCraft{Name: "a" + strconv.Itoa(i), Sights: []api.HzSight{{Tick: tick}}})
	}
	return l
}

// liar is seen at a tick, and in the next one too far away.
func liar(tick int) api.HzCraft {
	return api.HzCraft{Name: "liar", Speed: 1000, Sights: []api.HzSight{{Tick: tick}, {Tick: tick + 1, Place: api.Place{X: 1001}}}}
}

// impact is one in an area from a tick until another one.
func impact(a api.Area, from, until int) api.FlImpact {
	return api.FlImpact{Area: a, At: span(from, until)}
}

// P4.6
func TestShips(t *testing.T) {
	here := area(0, 0, 0, 0)
	other := ferry()
	other.Name = "other"
	for i, c := range []struct {
		l      []api.FlImpact
		crafts []api.HzCraft
		meets  []api.HzMeet
	}{
		{nil, nil, nil},
		{[]api.FlImpact{splash()}, nil, nil},
		{nil, []api.HzCraft{ferry()}, nil},
		{[]api.FlImpact{splash()}, []api.HzCraft{ferry()}, []api.HzMeet{{Craft: 0, Impact: 0, Tick: 240}}},
		{[]api.FlImpact{impact(splash().Area, 239, 239)}, []api.HzCraft{ferry()}, nil},
		{[]api.FlImpact{impact(splash().Area, 240, 240)}, []api.HzCraft{ferry()}, []api.HzMeet{{Tick: 240}}},
		{[]api.FlImpact{impact(splash().Area, 250, 300)}, []api.HzCraft{ferry()}, []api.HzMeet{{Tick: 250}}},
		// X alone, or Y alone, is not enough; a common end is.
		{[]api.FlImpact{impact(area(0, 50000, 20001, 30000), 240, 240)}, []api.HzCraft{ferry()}, nil},
		{[]api.FlImpact{impact(area(0, 50000, 20000, 30000), 240, 240)}, []api.HzCraft{ferry()}, []api.HzMeet{{Tick: 240}}},
		{[]api.FlImpact{impact(area(0, 50000, -30000, -20001), 240, 240)}, []api.HzCraft{ferry()}, nil},
		{[]api.FlImpact{impact(area(60001, 70000, 0, 0), 240, 240)}, []api.HzCraft{ferry()}, nil},
		// The index of the impact in the list, whatever its Piece is; craft by craft.
		{[]api.FlImpact{{Piece: 7, Area: splash().Area, At: span(240, 250)}, impact(area(-1, 1, -1, 1), 100, 100), {Piece: 9, Area: splash().Area, At: span(245, 250)}}, []api.HzCraft{ferry(), other},
			[]api.HzMeet{{Craft: 0, Impact: 0, Tick: 240}, {Craft: 0, Impact: 1, Tick: 100}, {Craft: 0, Impact: 2, Tick: 245}, {Craft: 1, Impact: 0, Tick: 240}, {Craft: 1, Impact: 1, Tick: 100}, {Craft: 1, Impact: 2, Tick: 245}}},
		{[]api.FlImpact{splash(), impact(here, 0, 3000)}, slices.Concat([]api.HzCraft{ferry()}, fleet(2, 7)), []api.HzMeet{{Craft: 0, Impact: 0, Tick: 240}, {Craft: 0, Impact: 1, Tick: 0}, {Craft: 1, Impact: 1, Tick: 0}, {Craft: 2, Impact: 1, Tick: 0}}},
		// An aircraft too: its height does not matter.
		{[]api.FlImpact{impact(area(-7000, -7000, 2000, 2000), 0, 100)}, []api.HzCraft{plane()}, []api.HzMeet{{Tick: 0}}},
		{slices.Repeat([]api.FlImpact{impact(area(1, 1, 0, 0), 97000, 100000)}, 12), fleet(12, 0), nil},
	} {
		if l, e := hazard.Ships(c.l, c.crafts); !slices.Equal(l, c.meets) || e != api.OK {
			t.Errorf("%d: Ships = %v, %d", i, l, e)
		}
	}
}

// P4.6: crafts that contradict themselves.
func TestShipsDown(t *testing.T) {
	// What is seen at 100, and too far away at 101, contradicts itself at these two ticks alone.
	after := area(1001, 1001, 0, 0)
	for i, c := range []struct {
		x     api.FlImpact
		meets []api.HzMeet
		e     api.Errno
	}{
		{impact(after, 99, 99), nil, api.OK},
		{impact(after, 99, 100), nil, api.ErrDown},
		{impact(after, 98, 100), []api.HzMeet{{Tick: 98}}, api.OK}, // it is there before it contradicts itself
		{impact(after, 100, 100), nil, api.ErrDown},
		{impact(after, 101, 101), nil, api.ErrDown},
		{impact(after, 102, 110), []api.HzMeet{{Tick: 102}}, api.OK},
		{impact(after, 101, 110), nil, api.ErrDown},
		{impact(area(0, 0, 0, 0), 99, 110), []api.HzMeet{{Tick: 99}}, api.OK},
		{impact(area(0, 0, 0, 0), 100, 110), nil, api.ErrDown},
	} {
		if l, e := hazard.Ships([]api.FlImpact{c.x}, []api.HzCraft{liar(100)}); !slices.Equal(l, c.meets) || e != c.e {
			t.Errorf("%d: Ships = %v, %d", i, l, e)
		}
	}
	// One of several is enough, and then nothing else is told.
	down, quiet := impact(after, 100, 100), impact(after, 1000, 1000)
	for i, c := range []struct {
		l      []api.FlImpact
		crafts []api.HzCraft
		e      api.Errno
	}{
		{[]api.FlImpact{splash(), down}, []api.HzCraft{ferry(), liar(100)}, api.ErrDown},
		{[]api.FlImpact{down, splash()}, []api.HzCraft{liar(100), ferry()}, api.ErrDown},
		{[]api.FlImpact{quiet, down, quiet}, []api.HzCraft{ferry(), liar(100), plane()}, api.ErrDown},
		{[]api.FlImpact{down}, []api.HzCraft{ferry(), plane()}, api.OK},
		{[]api.FlImpact{quiet, splash()}, []api.HzCraft{ferry(), liar(100)}, api.OK},
	} {
		if l, e := hazard.Ships(c.l, c.crafts); e != c.e || e != api.OK && len(l) > 0 {
			t.Errorf("%d: Ships = %v, %d", i, l, e)
		}
	}
	// In height alone.
	diver := api.HzCraft{Name: "diver", Speed: 9, High: 9, Sights: []api.HzSight{{Tick: 50, Height: 10}}}
	if l, e := hazard.Ships([]api.FlImpact{impact(area(0, 0, 0, 0), 0, 0)}, []api.HzCraft{diver}); len(l) > 0 || e != api.ErrDown {
		t.Errorf("Ships = %v, %d", l, e)
	}
}

// craftErrors are lists of crafts with an error.
func craftErrors() map[api.Errno][]api.HzCraft {
	unnamed, fast, unseen, twice := ferry(), ferry(), ferry(), ferry()
	unnamed.Name, fast.Speed, unseen.Sights, twice.Sights[1].Tick = "", math.MaxInt, nil, 100
	return map[api.Errno][]api.HzCraft{
		api.ErrForm:  {ferry(), ferry(), unnamed, fast},
		api.ErrRange: {fast, unnamed},
		api.ErrLong:  {plane(), plane(), unseen},
		api.ErrArg:   {twice, fast},
		api.ErrTwice: {plane(), ferry(), liar(240), ferry()},
	}
}

// P4.6
func TestShipsErrors(t *testing.T) {
	ships := func(impacts []api.FlImpact, crafts []api.HzCraft, want api.Errno) {
		t.Helper()
		if l, e := hazard.Ships(impacts, crafts); len(l) > 0 || e != want {
			t.Errorf("Ships = %v, %d, and not %d", l, e, want)
		}
	}
	bad := api.FlImpact{Piece: -1}
	for e, l := range craftErrors() {
		ships([]api.FlImpact{splash()}, l, e)
		ships(nil, l, e)
		ships([]api.FlImpact{splash(), bad}, l, api.ErrRange)
		ships(make([]api.FlImpact, 13), l, api.ErrLong)
	}
	ships(make([]api.FlImpact, 12), fleet(12, 0)[1:1], api.OK)
	ships(make([]api.FlImpact, 13), nil, api.ErrLong)
	ships(slices.Repeat([]api.FlImpact{bad}, 13), nil, api.ErrLong)
	ships(nil, fleet(12, 0), api.OK)
	ships(nil, fleet(13, 0), api.ErrLong)
	ships([]api.FlImpact{bad}, make([]api.HzCraft, 13), api.ErrLong)
	ships([]api.FlImpact{bad}, make([]api.HzCraft, 12), api.ErrRange)
	ships(nil, make([]api.HzCraft, 12), api.ErrForm)
}

// P4.6
func TestMeets(t *testing.T) {
	at := area(-7000, -7000, 2000, 2000)
	still := fleet(1, 0)[0]
	still.Climb, still.High = 10, 50
	for i, c := range []struct {
		states []api.FlState
		from   int
		crafts []api.HzCraft
		meets  []api.HzMeet
		e      api.Errno
	}{
		{nil, 0, nil, nil, api.OK},
		{nil, 100000, []api.HzCraft{plane()}, nil, api.OK},
		{stay(5, at, only(3000)), 8, nil, nil, api.OK},
		{stay(5, at, only(3000)), 8, []api.HzCraft{plane()}, []api.HzMeet{{Tick: 8}}, api.OK},
		// It is at 2900 to 3100 at the tick 10, and climbs by 10 in each.
		{stay(50, at, span(3200, 3300)), 5, []api.HzCraft{plane()}, []api.HzMeet{{Tick: 20}}, api.OK},
		{stay(15, at, span(3200, 3300)), 5, []api.HzCraft{plane()}, nil, api.OK},
		{stay(16, at, span(3200, 3300)), 5, []api.HzCraft{plane()}, []api.HzMeet{{Tick: 20}}, api.OK},
		{stay(50, at, span(2500, 2800)), 5, []api.HzCraft{plane()}, []api.HzMeet{{Tick: 20}}, api.OK},
		{stay(3001, at, span(0, 499)), 0, []api.HzCraft{plane()}, nil, api.OK},
		{stay(3001, at, span(9001, 10000)), 0, []api.HzCraft{plane()}, nil, api.OK},
		{stay(3001, at, only(9000)), 97000, []api.HzCraft{plane()}, []api.HzMeet{{Tick: 97000}}, api.OK},
		// X, and Y, too.
		{stay(20, area(-5000, 0, 2000, 2000), only(3000)), 10, []api.HzCraft{plane()}, []api.HzMeet{{Tick: 12}}, api.OK},
		{stay(20, area(-7000, -7000, 5101, 9000), only(3000)), 10, []api.HzCraft{plane()}, []api.HzMeet{{Tick: 14}}, api.OK},
		{stay(20, area(-7000, -7000, -1000, -900), only(3000)), 10, []api.HzCraft{plane()}, []api.HzMeet{{Tick: 13}}, api.OK},
		// The states are at other ticks, one after the other.
		{slices.Concat(stay(4, area(1, 1, 0, 0), only(0)), stay(1, area(0, 0, 0, 0), only(51)), stay(1, area(0, 0, 0, 0), only(50)), stay(2, area(0, 0, 0, 0), only(0))), 30, []api.HzCraft{still}, []api.HzMeet{{Tick: 35}}, api.OK},
		{stay(2, at, only(3000)), 10, []api.HzCraft{ferry(), plane(), liar(50)}, []api.HzMeet{{Craft: 0, Tick: 10}, {Craft: 1, Tick: 10}, {Craft: 2, Tick: 10}}[1:2], api.OK},
		// Any numbers are those of a state.
		{[]api.FlState{{X: span(math.MinInt, math.MaxInt), Y: span(math.MinInt, math.MaxInt), Z: span(math.MinInt, math.MaxInt), VX: only(math.MaxInt), VY: only(math.MinInt), VZ: span(math.MinInt, math.MaxInt)}}, 7, []api.HzCraft{plane(), ferry()}, []api.HzMeet{{Craft: 0, Tick: 7}, {Craft: 1, Tick: 7}}, api.OK},
		{[]api.FlState{{X: only(math.MinInt), Y: only(math.MaxInt), Z: only(math.MaxInt)}}, 7, []api.HzCraft{plane()}, nil, api.OK},
		// A craft that contradicts itself, before it can be there, or later.
		{stay(3, area(0, 0, 0, 0), only(0)), 99, []api.HzCraft{liar(100)}, []api.HzMeet{{Tick: 99}}, api.OK},
		{stay(3, area(0, 0, 0, 0), only(0)), 100, []api.HzCraft{liar(100)}, nil, api.ErrDown},
		{stay(3, area(0, 0, 0, 0), only(1)), 99, []api.HzCraft{liar(100)}, nil, api.ErrDown},
		{stay(3, area(0, 0, 0, 0), only(1)), 102, []api.HzCraft{liar(100)}, nil, api.OK},
		{stay(3, area(0, 0, 0, 0), only(1)), 97, []api.HzCraft{liar(100)}, nil, api.OK},
		{nil, 100, []api.HzCraft{liar(100)}, nil, api.OK},
	} {
		if l, e := hazard.Meets(c.states, c.from, c.crafts); !slices.Equal(l, c.meets) || e != c.e {
			t.Errorf("%d: Meets = %v, %d", i, l, e)
		}
	}
}

// P4.6
func TestMeetsErrors(t *testing.T) {
	meets := func(states []api.FlState, from int, crafts []api.HzCraft, want api.Errno) {
		t.Helper()
		if l, e := hazard.Meets(states, from, crafts); len(l) > 0 || e != want {
			t.Errorf("Meets = %v, %d, and not %d", l, e, want)
		}
	}
	some := stay(4, area(3, 4, 5, 6), only(7))
	for e, l := range craftErrors() {
		meets(some, 0, l, e)
		meets(nil, 0, l, e)
		meets(some, -1, l, api.ErrRange)
		meets(make([]api.FlState, 3002), 0, l, api.ErrLong)
	}
	meets(make([]api.FlState, 3001), 0, nil, api.OK)
	meets(make([]api.FlState, 3002), -1, nil, api.ErrLong)
	meets(some, 0, fleet(12, 0), api.OK)
	meets(some, -1, fleet(13, 0), api.ErrLong)
	meets(some, 0, make([]api.HzCraft, 13), api.ErrLong)
	meets(some, -1, make([]api.HzCraft, 12), api.ErrRange)
	meets(nil, 100000, nil, api.OK)
	meets(some, 99997, nil, api.OK)
	meets(some, 99998, nil, api.ErrRange)
	meets(some[:1], 100000, nil, api.OK)
	for _, n := range []int{-1, 100001, math.MinInt, math.MaxInt, math.MaxInt - 2} {
		meets(nil, n, nil, api.ErrRange)
		meets(some, n, nil, api.ErrRange)
	}
	for i := range 6 {
		l := slices.Clone(some)
		s := &l[3]
		of := [...]*api.Span{&s.X, &s.Y, &s.Z, &s.VX, &s.VY, &s.VZ}[i]
		*of = only(8)
		meets(l, 0, nil, api.OK)
		*of = span(9, 8)
		meets(l, 0, nil, api.ErrRange)
		meets(l, 0, make([]api.HzCraft, 12), api.ErrRange)
		*of = span(math.MaxInt, math.MinInt)
		meets(l, 0, nil, api.ErrRange)
	}
}
