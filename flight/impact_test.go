package flight_test

import (
	"math"
	"slices"
	"testing"

	"hangfire/api"
	"hangfire/flight"
)

// piece is one of a kg that comes down to a floor, without drag.
func piece(name string, at, floor int, kick api.FlTilt) api.FlPiece {
	return api.FlPiece{Name: name, At: at, Mass: only(1), Kick: kick, Floor: floor}
}

func area(x, y api.Span) api.Area { return api.Area{X: x, Y: y} }

// P2.6: the chapter's example, with pieces. The heights of the dart: 0, 902, 2706, 4412, 6020, .. 1178 at 39, -836 at 40.
func TestImpacts(t *testing.T) {
	x := func(n int) api.Span { return span(-n, n) }
	still := api.FlTilt{}
	for i, c := range []struct {
		pieces []api.FlPiece
		want   []api.FlImpact
	}{
		{nil, nil},
		// A piece that flies as the vehicle does.
		{[]api.FlPiece{piece("nose", 2, 0, still)}, []api.FlImpact{{At: only(40), Area: area(x(79), only(0))}}},
		{[]api.FlPiece{piece("nose", 39, 0, still)}, []api.FlImpact{{At: only(40), Area: area(x(79), only(0))}}},
		// It separates where it is down, or below: the first tick behind counts.
		{[]api.FlPiece{piece("nose", 40, 0, still)}, []api.FlImpact{{At: only(41), Area: area(x(81), only(0))}}},
		{[]api.FlPiece{piece("nose", 50, 0, still)}, []api.FlImpact{{At: only(51), Area: area(x(101), only(0))}}},
		// Another floor: the vehicle is 6020 high at 4, and again at 36; without the second tick of thrust it is 902 high at 1 and 19.
		{[]api.FlPiece{piece("nose", 4, 6020, still)}, []api.FlImpact{{At: only(36), Area: area(x(71), only(0))}}},
		{[]api.FlPiece{piece("nose", 1, 902, still)}, []api.FlImpact{{At: only(19), Area: area(x(19), only(0))}}},
		{[]api.FlPiece{piece("nose", 3, 7530, still)}, []api.FlImpact{{At: only(4), Area: area(x(7), only(0))}}},
		{[]api.FlPiece{piece("nose", 3, 6020, still)}, []api.FlImpact{{At: only(4), Area: area(x(7), only(0))}}},
		{[]api.FlPiece{piece("nose", 3, 6019, still)}, []api.FlImpact{{At: only(36), Area: area(x(71), only(0))}}},
		// Several ticks: Z is from 4320 to 4420 at 4, and from 4130 to 4330 at 5.
		{[]api.FlPiece{piece("nose", 3, 4412, api.FlTilt{Y: span(2, 3), Z: span(-1700, -1600)})}, []api.FlImpact{{At: span(4, 5), Area: area(x(9), span(2, 6))}}},
		// By their indices, whatever their At.
		{[]api.FlPiece{piece("late", 40, 0, still), piece("soon", 2, 0, still)}, []api.FlImpact{{At: only(41), Area: area(x(81), only(0))}, {Piece: 1, At: only(40), Area: area(x(79), only(0))}}},
	} {
		v := dart()
		v.Pieces = c.pieces
		want := append(c.want, api.FlImpact{Piece: len(c.pieces), At: only(40), Area: area(x(79), only(0))})
		if l, e := flight.Impacts(v, straight, calm()); !slices.Equal(l, want) || e != api.OK {
			t.Errorf("%d: Impacts = %v, %d", i, l, e)
		}
	}
}

// P2.6: the lowest flights touch the floor at first, and are above it later; all ticks from then on count.
func TestImpactOfLeaps(t *testing.T) {
	v := dart()
	v.Phases = []api.FlPhase{
		{Ticks: 2, Thrust: span(0, 300), Mass: only(10)},
		{Ticks: 3, Thrust: only(1000), Mass: only(10), Tilt: api.FlTilt{X: only(2000), Y: only(-2000)}},
		{Ticks: 6, Thrust: only(1000), Mass: only(10), Tilt: api.FlTilt{X: only(-2000), Y: only(2000)}},
	}
	l, _ := flight.Fly(v, straight, calm(), 300)
	want, e := landed(l, 0, 0, 0)
	if e != api.OK || want.At.Lo != 1 {
		t.Fatalf("the impact is %v, %d", want, e)
	}
	for i, s := range l[:want.At.Hi+1] {
		if (s.X.Hi == want.Area.X.Hi || s.Y.Lo == want.Area.Y.Lo) && s.Z.Lo <= 0 {
			t.Errorf("it is farthest at %d, at the floor", i)
		}
	}
	if l, e := flight.Impacts(v, straight, calm()); !slices.Equal(l, []api.FlImpact{want}) || e != api.OK {
		t.Errorf("Impacts = %v, %d, and not %v", l, e, want)
	}
}

// slow is a vehicle that rises by a number at first, and whose speed falls by 2 in each tick.
func slow(rise int) api.FlVehicle {
	return api.FlVehicle{Name: "slow", Gravity: only(2), Phases: []api.FlPhase{{Ticks: 1, Thrust: only(rise), Mass: only(10)}}}
}

// P2.6: the last tick at which something can come down.
func TestImpactsErrDown(t *testing.T) {
	if l, e := flight.Impacts(slow(3001), straight, calm()); !slices.Equal(l, []api.FlImpact{{At: only(3000)}}) || e != api.OK {
		t.Errorf("Impacts = %v, %d", l, e)
	}
	wide := slow(3001)
	wide.Phases[0].Thrust.Hi++
	heavy := slow(5)
	heavy.Gravity.Lo = 0
	never := slow(5)
	never.Gravity = only(0)
	for i, v := range []api.FlVehicle{slow(3002), wide, heavy, never} {
		if l, e := flight.Impacts(v, straight, calm()); len(l) > 0 || e != api.ErrDown {
			t.Errorf("%d: Impacts = %v, %d", i, l, e)
		}
	}
	// What separates at the last tick has no tick behind it.
	v := slow(5)
	for at, want := range map[int]api.Errno{2999: api.OK, 3000: api.ErrDown} {
		v.Pieces = []api.FlPiece{piece("nose", at, 0, api.FlTilt{})}
		if l, e := flight.Impacts(v, straight, calm()); e != want || e != api.OK && len(l) > 0 {
			t.Errorf("Impacts = %v, %d", l, e)
		}
	}
}

// P2.6: the last tick at which something may be too far.
func TestImpactsErrLong(t *testing.T) {
	aside := api.FlTilt{X: only(1000000)}
	// The piece is 2 x 10^9 mm aside at the tick 2001, at which it comes down.
	v := slow(2002)
	v.Pieces = []api.FlPiece{piece("nose", 1, 0, aside)}
	want := []api.FlImpact{{At: only(2001), Area: area(only(2000000000), only(0))}, {Piece: 1, At: only(2001)}}
	if l, e := flight.Impacts(v, straight, calm()); !slices.Equal(l, want) || e != api.OK {
		t.Errorf("Impacts = %v, %d", l, e)
	}
	// It comes down one tick later, and is too far at this tick.
	v.Phases[0].Thrust = only(2003)
	if l, e := flight.Impacts(v, straight, calm()); len(l) > 0 || e != api.ErrLong {
		t.Errorf("Impacts = %v, %d", l, e)
	}
	// The vehicle is down long before it is too far, and has no error, but the pieces that separate then have one.
	v = slow(0)
	v.Phases = append(v.Phases, api.FlPhase{Ticks: 1, Thrust: only(2000000), Mass: only(20)})
	d := api.FlDir{X: api.Unit, Z: 1}
	if l, e := flight.Impacts(v, d, calm()); !slices.Equal(l, []api.FlImpact{{At: only(1)}}) || e != api.OK {
		t.Errorf("Impacts = %v, %d", l, e)
	}
	for at, want := range map[int]api.Errno{2000: api.OK, 2001: api.ErrLong, 2002: api.ErrLong, 3000: api.ErrLong} {
		v.Pieces = []api.FlPiece{piece("nose", at, 0, api.FlTilt{})}
		if l, e := flight.Impacts(v, d, calm()); e != want || e != api.OK && len(l) > 0 {
			t.Errorf("Impacts with a piece at %d = %v, %d", at, l, e)
		}
	}
	// What never comes down, and gets too far.
	if l, e := flight.Impacts(fast(), straight, calm()); len(l) > 0 || e != api.ErrLong {
		t.Errorf("Impacts = %v, %d", l, e)
	}
	// What begins too far is too far, even where it would be down.
	v = slow(5)
	v.Pieces = []api.FlPiece{piece("nose", 1, 0, api.FlTilt{Z: only(-1000000)})}
	v.Phases[0].Thrust = only(0)
	if l, e := flight.Impacts(v, straight, calm()); len(l) > 0 || e != api.ErrLong {
		t.Errorf("Impacts = %v, %d", l, e)
	}
}

// P2.6: the first of the pieces, and then of the vehicle, with an error decides.
func TestImpactsFirstError(t *testing.T) {
	down := piece("down", 3000, 0, api.FlTilt{})
	long := piece("long", 1, 0, api.FlTilt{X: only(1000000), Y: only(1)})
	fine := piece("fine", 1, 0, api.FlTilt{})
	for i, c := range []struct {
		v      api.FlVehicle
		pieces []api.FlPiece
		e      api.Errno
	}{
		{slow(2500), []api.FlPiece{fine}, api.OK},
		{slow(2500), []api.FlPiece{down, long}, api.ErrDown},
		{slow(2500), []api.FlPiece{long, down}, api.ErrLong},
		{slow(2500), []api.FlPiece{fine, down}, api.ErrDown},
		{slow(2500), []api.FlPiece{fine, long}, api.ErrLong},
		{slow(3002), []api.FlPiece{long}, api.ErrLong},
		{slow(3002), []api.FlPiece{piece("soon", 1, 0, api.FlTilt{Z: only(-3002)})}, api.ErrDown},
		{fast(), []api.FlPiece{piece("down", 1, 0, api.FlTilt{Z: only(-1000000 + 1)})}, api.ErrDown},
		{fast(), []api.FlPiece{piece("soon", 1, 1000001, api.FlTilt{Z: only(-1000000 + 1)})}, api.ErrLong},
	} {
		v := c.v
		v.Pieces = c.pieces
		if l, e := flight.Impacts(v, straight, calm()); e != c.e || e != api.OK && len(l) > 0 {
			t.Errorf("%d: Impacts = %v, %d", i, l, e)
		}
	}
}

// P2.7
func TestDown(t *testing.T) {
	path := []api.FlPoint{{Z: -5}, {X: 1, Y: 2, Z: 10}, {X: 3, Y: -4, Z: 7}, {X: 5, Y: 6, Z: 0}, {X: 7, Y: 8, Z: 20}, {X: 9, Y: 10, Z: -1}}
	long := make([]api.FlPoint, 3001)
	for i := range long {
		long[i].Z = 1
	}
	lower := slices.Clone(long)
	lower[3000] = api.FlPoint{X: 7, Y: 8}
	far := slices.Clone(path)
	far[4].X = api.MaxPlace + 1
	for i, c := range []struct {
		path  []api.FlPoint
		floor int
		place api.Place
		tick  int
		e     api.Errno
	}{
		{path, 10, api.Place{X: 1, Y: 2}, 1, api.OK},
		{path, 9, api.Place{X: 3, Y: -4}, 2, api.OK},
		{path, 7, api.Place{X: 3, Y: -4}, 2, api.OK},
		{path, 6, api.Place{X: 5, Y: 6}, 3, api.OK},
		{path, 0, api.Place{X: 5, Y: 6}, 3, api.OK},
		{path, api.MaxPlace, api.Place{X: 1, Y: 2}, 1, api.OK},
		{path[:3], 0, api.Place{}, 0, api.ErrDown},
		{path[:3], 6, api.Place{}, 0, api.ErrDown},
		{path[:1], 0, api.Place{}, 0, api.ErrDown},
		{make([]api.FlPoint, 2), 0, api.Place{}, 1, api.OK},
		{long, 0, api.Place{}, 0, api.ErrDown},
		{lower, 0, api.Place{X: 7, Y: 8}, 3000, api.OK},
		{path, -1, api.Place{}, 0, api.ErrRange},
		{path, api.MaxPlace + 1, api.Place{}, 0, api.ErrRange},
		{path, math.MinInt, api.Place{}, 0, api.ErrRange},
		{path[:1], -1, api.Place{}, 0, api.ErrRange},
		{nil, -1, api.Place{}, 0, api.ErrLong},
		{[]api.FlPoint{}, 0, api.Place{}, 0, api.ErrLong},
		{make([]api.FlPoint, 3002), 0, api.Place{}, 0, api.ErrLong},
		{append(make([]api.FlPoint, 3001), api.FlPoint{X: math.MaxInt}), -1, api.Place{}, 0, api.ErrLong},
		{far, 10, api.Place{}, 0, api.ErrRange},
	} {
		if p, tick, e := flight.Down(c.path, c.floor); p != c.place || tick != c.tick || e != c.e {
			t.Errorf("%d: Down = %v, %d, %d", i, p, tick, e)
		}
	}
}
