package flight_test

import (
	"math"
	"math/rand"
	"slices"
	"testing"

	"hangfire/api"
	"hangfire/flight"
)

// P2.4: the chapter's example.
func TestFly(t *testing.T) {
	want := []api.FlState{
		{},
		{X: span(-1, 1), Z: only(902), VX: span(-1, 1), VZ: only(902)},
		{X: span(-3, 3), Z: only(2706), VX: span(-2, 2), VZ: only(1804)},
		{X: span(-5, 5), Z: only(4412), VX: span(-2, 2), VZ: only(1706)},
	}
	for n := range want {
		if l, e := flight.Fly(dart(), straight, calm(), n); !slices.Equal(l, want[:n+1]) || e != api.OK {
			t.Errorf("Fly of %d = %v, %d", n, l, e)
		}
	}
	for n, want := range map[int]api.Span{0: only(0), 1: only(902), 2: only(2706), 3: only(4412), 19: only(18380), 20: only(18420), 25: only(18420), 3000: only(18420)} {
		if s, e := flight.Top(dart(), straight, calm(), n); s != want || e != api.OK {
			t.Errorf("Top of %d = %v, %d", n, s, e)
		}
	}
	if l, e := flight.Fly(dart(), straight, calm(), 3000); len(l) != 3001 || e != api.OK {
		t.Errorf("Fly of 3000 = %d states, %d", len(l), e)
	}
}

// P2.4: a vehicle that only falls is nowhere higher than at first, and Lo and Hi have their greatest values at ticks of their own.
func TestTop(t *testing.T) {
	v := dart()
	v.Phases[0].Thrust = only(0)
	if s, e := flight.Top(v, straight, calm(), 10); s != only(0) || e != api.OK {
		t.Errorf("Top = %v, %d", s, e)
	}
	v.Phases[0].Thrust = span(0, 1000)
	if s, e := flight.Top(v, straight, calm(), 10); s != span(0, 13610) || e != api.OK {
		t.Errorf("Top = %v, %d", s, e)
	}
	v.Phases[0].Thrust = span(200, 1000)
	l, _ := flight.Fly(v, straight, calm(), 25)
	want := l[0].Z
	for _, s := range l {
		want = span(max(want.Lo, s.Z.Lo), max(want.Hi, s.Z.Hi))
	}
	if s, e := flight.Top(v, straight, calm(), 25); s != want || e != api.OK || want.Lo <= 0 || want.Hi <= l[25].Z.Hi || want.Lo == l[20].Z.Lo {
		t.Errorf("Top = %v, %d, and not %v", s, e, want)
	}
}

// P2.4
func TestFlyErrors(t *testing.T) {
	for _, n := range []int{-1, 3001, math.MinInt, math.MaxInt} {
		l, e := flight.Fly(dart(), straight, calm(), n)
		s, f := flight.Top(dart(), straight, calm(), n)
		if len(l) > 0 || e != api.ErrRange || s != (api.Span{}) || f != api.ErrRange {
			t.Errorf("Fly of %d = %v, %d; Top = %v, %d", n, l, e, s, f)
		}
	}
	// ErrRange comes before ErrLong.
	if l, e := flight.Fly(fast(), straight, calm(), 3001); len(l) > 0 || e != api.ErrRange {
		t.Errorf("Fly = %v, %d", l, e)
	}
}

// fast is a vehicle that has the greatest speed from the first tick on, without gravity: at the tick 2000 it is as far as it may be.
func fast() api.FlVehicle {
	return api.FlVehicle{Name: "fast", Phases: []api.FlPhase{{Ticks: 1, Thrust: only(2000000), Mass: only(20)}}}
}

// P2.4: too far, along each axis, and too fast.
func TestTooFar(t *testing.T) {
	faster := fast()
	faster.Phases = append(faster.Phases, api.FlPhase{Ticks: 1, Thrust: only(1), Mass: only(10)})
	heavy := fast()
	heavy.Phases[0].Mass = span(20, 21)
	light := fast()
	light.Phases[0].Mass = span(19, 20)
	falls := fast()
	falls.Gravity = only(100)
	falls.Phases[0].Tilt.Z = only(-1000)
	for i, c := range []struct {
		v    api.FlVehicle
		d    api.FlDir
		last int // the last tick that is not too far
	}{
		{fast(), straight, 2000},
		{fast(), api.FlDir{X: api.Unit, Z: 1}, 2000},
		{fast(), api.FlDir{X: -api.Unit, Z: 1}, 2000},
		{fast(), api.FlDir{Y: api.Unit, Z: 1}, 2000},
		{fast(), api.FlDir{Y: -api.Unit, Z: 1}, 2000},
		// The first force is from 952380 to 1000000.
		{heavy, straight, 2000},
		// The first force is too great.
		{light, straight, 0},
		{light, api.FlDir{Y: -api.Unit, Z: 1}, 0},
		// The second one is 1 more.
		{faster, straight, 1},
		{faster, api.FlDir{X: -api.Unit, Z: 1}, 1},
		// It falls, and is beside the range in one direction alone.
		{falls, api.FlDir{X: -api.Unit, Z: 1}, 2000},
	} {
		l, e := flight.Fly(c.v, c.d, calm(), c.last)
		s, f := flight.Top(c.v, c.d, calm(), c.last)
		if len(l) != c.last+1 || e != api.OK || f != api.OK {
			t.Errorf("%d: Fly of %d = %d states, %d; Top = %v, %d", i, c.last, len(l), e, s, f)
		}
		for _, n := range []int{c.last + 1, 3000} {
			l, e := flight.Fly(c.v, c.d, calm(), n)
			s, f := flight.Top(c.v, c.d, calm(), n)
			if len(l) > 0 || e != api.ErrLong || s != (api.Span{}) || f != api.ErrLong {
				t.Errorf("%d: Fly of %d = %d states, %d; Top = %v, %d", i, n, len(l), e, s, f)
			}
		}
	}
}

// P2.5
func TestPiece(t *testing.T) {
	v := dart()
	v.Pieces = []api.FlPiece{
		{Name: "tail", At: 2, Mass: only(3), Kick: api.FlTilt{X: span(-1, 5), Y: only(7), Z: span(-50, 50)}},
		{Name: "nose", At: 1, Mass: only(3), Drag: only(30)},
	}
	v.Air = []api.FlAir{{Dens: 1000}}
	want := []api.FlState{
		{X: span(-3, 3), Z: only(2706), VX: span(-3, 7), VY: only(7), VZ: span(1754, 1854)},
		{X: span(-6, 10), Y: only(7), Z: span(4362, 4462), VX: span(-3, 7), VY: only(7), VZ: span(1656, 1756)},
		{X: span(-9, 17), Y: only(14), Z: span(5920, 6120), VX: span(-3, 7), VY: only(7), VZ: span(1558, 1658)},
	}
	for n := range want {
		if l, e := flight.Piece(v, straight, calm(), 0, n); !slices.Equal(l, want[:n+1]) || e != api.OK {
			t.Errorf("Piece of %d = %v, %d", n, l, e)
		}
	}
	// It has its own drag, and no thrust, also while the vehicle has it: 902 902 30 1000 / 3 / 10^9 is 8.1.
	want = []api.FlState{
		{X: span(-1, 1), Z: only(902), VX: span(-1, 1), VZ: only(902)},
		{X: span(-3, 3), Z: span(1697, 1698), VX: span(-2, 2), VZ: span(795, 796)},
	}
	if l, e := flight.Piece(v, straight, calm(), 1, 1); !slices.Equal(l, want) || e != api.OK {
		t.Errorf("Piece = %v, %d", l, e)
	}
}

// P2.5
func TestPieceErrors(t *testing.T) {
	v := full()
	for i, c := range []struct {
		piece, n, length int
		e                api.Errno
	}{
		{0, 0, 1, api.OK},
		{0, 2998, 2999, api.OK},
		{0, 2999, 0, api.ErrRange},
		{0, -1, 0, api.ErrRange},
		{0, math.MinInt, 0, api.ErrRange},
		{0, math.MaxInt, 0, api.ErrRange},
		{1, 2991, 2992, api.OK},
		{1, 2992, 0, api.ErrRange},
		{2, 0, 0, api.ErrNone},
		{2, -1, 0, api.ErrNone},
		{-1, 0, 0, api.ErrNone},
		{-1, 3000, 0, api.ErrNone},
		{math.MaxInt, math.MaxInt, 0, api.ErrNone},
		{math.MinInt, 0, 0, api.ErrNone},
	} {
		v.Phases[1].Drag, v.Pieces[0].Drag, v.Pieces[1].Drag = only(0), only(0), only(0)
		if l, e := flight.Piece(v, straight, calm(), c.piece, c.n); len(l) != c.length || e != c.e {
			t.Errorf("%d: Piece = %d states, %d", i, len(l), e)
		}
	}
	if l, e := flight.Piece(dart(), straight, calm(), 0, 0); len(l) > 0 || e != api.ErrNone {
		t.Errorf("Piece = %v, %d", l, e)
	}
}

// P2.5
func TestPieceTooFar(t *testing.T) {
	later := dart() // it goes too far at the tick 6
	later.Phases = append(later.Phases, api.FlPhase{Ticks: 3, Mass: only(1)}, api.FlPhase{Ticks: 1, Thrust: only(2000000), Mass: only(1)})
	for i, c := range []struct {
		v    api.FlVehicle
		at   int
		kick api.FlTilt
		n    int
		e    api.Errno
	}{
		// The speed at the tick 1 is 902.
		{dart(), 1, api.FlTilt{Z: only(999098)}, 0, api.OK},
		{dart(), 1, api.FlTilt{Z: only(999099)}, 0, api.ErrLong},
		{dart(), 1, api.FlTilt{Z: only(999098)}, 2000, api.OK},
		{dart(), 1, api.FlTilt{X: span(0, 999999)}, 1999, api.OK},
		{dart(), 1, api.FlTilt{X: span(0, 999999)}, 2000, api.ErrLong}, // X is from -1 to 1 at the tick 1
		{dart(), 1, api.FlTilt{X: span(0, 1000000)}, 0, api.ErrLong},
		{dart(), 1, api.FlTilt{Y: only(-1000000)}, 2000, api.OK},
		{dart(), 1, api.FlTilt{Y: only(-1000000)}, 2001, api.ErrLong},
		// Down, by gravity alone: the speed is 902 less 1000000 and 98 for each tick.
		{dart(), 1, api.FlTilt{Z: only(-1000000)}, 9, api.OK},
		{dart(), 1, api.FlTilt{Z: only(-1000000)}, 10, api.ErrLong},
		// The vehicle is too far behind At, at it, and before it.
		{later, 5, api.FlTilt{}, 2995, api.OK},
		{later, 6, api.FlTilt{}, 0, api.ErrLong},
		{later, 7, api.FlTilt{}, 0, api.ErrLong},
		// A kick does not bring it back.
		{later, 6, api.FlTilt{Z: only(-1000000)}, 0, api.ErrLong},
	} {
		v := c.v
		v.Pieces = []api.FlPiece{{Name: "nose", At: c.at, Mass: only(1), Kick: c.kick}}
		l, e := flight.Piece(v, straight, calm(), 0, c.n)
		if e != c.e || e == api.OK && len(l) != c.n+1 || e != api.OK && len(l) > 0 {
			t.Errorf("%d: Piece of %d = %d states, %d", i, c.n, len(l), e)
		}
	}
	if l, e := flight.Fly(later, straight, calm(), 5); len(l) != 6 || e != api.OK {
		t.Errorf("Fly = %v, %d", l, e)
	}
}

// P2.4, P2.5, P2.6: the definitions, on random vehicles.
func TestStatesByNumbers(t *testing.T) {
	r := rand.New(rand.NewSource(24))
	errors := map[api.Errno]int{}
	for range 80 {
		v, d, l := randomVehicle(r), randomDir(r), randomBands(r)
		if r.Intn(5) == 0 { // the spans grow beyond all bounds
			v.Air, v.Phases[0].Drag = []api.FlAir{{Dens: 1000}}, span(0, 1000)
		}
		n := r.Intn(80)
		want := flown(v, d, l, n)
		all, e := flight.Fly(v, d, l, n)
		if isFar(want[len(want)-1]) {
			if e != api.ErrLong {
				t.Fatalf("Fly of %d: %d of %v, %v, %v", n, e, v, d, l)
			}
		} else if e != api.OK || !slices.Equal(all, want) {
			t.Fatalf("Fly of %d = %v, %d and not %v of %v, %v, %v", n, all, e, want, v, d, l)
		}
		for i, p := range v.Pieces {
			want := flownPiece(v, d, l, i, p.At+n)
			all, e := flight.Piece(v, d, l, i, n)
			if isFar(want[len(want)-1]) {
				if e != api.ErrLong {
					t.Fatalf("Piece %d of %d: %d of %v, %v, %v", i, n, e, v, d, l)
				}
			} else if e != api.OK || !slices.Equal(all, want) {
				t.Fatalf("Piece %d of %d = %v, %d and not %v of %v, %v, %v", i, n, all, e, want, v, d, l)
			}
		}
		impacts, e := flight.Impacts(v, d, l)
		wants, we := allLanded(v, d, l)
		if e != we || !slices.Equal(impacts, wants) {
			t.Fatalf("Impacts = %v, %d and not %v, %d of %v, %v, %v", impacts, e, wants, we, v, d, l)
		}
		errors[e]++
	}
	if errors[api.OK] < 40 || errors[api.ErrLong] < 4 {
		t.Errorf("errors: %v", errors)
	}
}

// allLanded returns the impacts of all pieces and of the vehicle, or the first error. They are short flights: what has not come down after 400 ticks is told by the states up to the last tick.
func allLanded(v api.FlVehicle, d api.FlDir, l []api.WnBand) ([]api.FlImpact, api.Errno) {
	var all []api.FlImpact
	for i := range len(v.Pieces) + 1 {
		x, e := api.FlImpact{}, api.ErrDown
		for _, until := range []int{400, api.MaxFlTicks} {
			if e == api.ErrDown && i < len(v.Pieces) {
				x, e = landed(flownPiece(v, d, l, i, until), i, v.Pieces[i].At, v.Pieces[i].Floor)
			} else if e == api.ErrDown {
				x, e = landed(flown(v, d, l, until), i, 0, 0)
			}
		}
		if e != api.OK {
			return nil, e
		}
		all = append(all, x)
	}
	return all, api.OK
}
