package flight_test

import (
	"math"
	"strings"
	"testing"

	"hangfire/api"
	"hangfire/flight"
)

// manyAirs are n entries, one mm above the other.
func manyAirs(n int) []api.FlAir {
	var l []api.FlAir
	for i := range n {
		l = append(l, api.FlAir{From: i, Dens: i})
	}
	return l
}

func manyPhases(n int) []api.FlPhase {
	var l []api.FlPhase
	for range n {
		l = append(l, api.FlPhase{Ticks: 1, Mass: only(1)})
	}
	return l
}

func manyPieces(n int) []api.FlPiece {
	var l []api.FlPiece
	for i := range n {
		l = append(l, api.FlPiece{Name: string(rune('a' + i)), At: 1, Mass: only(1)})
	}
	return l
}

// wrong are changes of the vehicle full, and what Check then returns.
var wrong = []struct {
	change   func(v *api.FlVehicle)
	part, at int
	e        api.Errno
}{
	{func(v *api.FlVehicle) {}, 0, 0, api.OK},
	{func(v *api.FlVehicle) { *v = api.FlVehicle{} }, 1, 0, api.ErrForm},
	{func(v *api.FlVehicle) { *v = api.FlVehicle{Name: "a", Phases: manyPhases(1)} }, 0, 0, api.OK},
	// Part 1.
	{func(v *api.FlVehicle) { v.Name = "" }, 1, 0, api.ErrForm},
	{func(v *api.FlVehicle) { v.Name = "Dart" }, 1, 0, api.ErrForm},
	{func(v *api.FlVehicle) { v.Name = strings.Repeat("a", 24) }, 0, 0, api.OK},
	{func(v *api.FlVehicle) { v.Name = strings.Repeat("a", 25) }, 1, 0, api.ErrForm},
	{func(v *api.FlVehicle) { v.Name = "tail" }, 0, 0, api.OK},
	{func(v *api.FlVehicle) { v.Gravity = span(0, 200) }, 0, 0, api.OK},
	{func(v *api.FlVehicle) { v.Gravity = span(-1, 98) }, 1, 0, api.ErrRange},
	{func(v *api.FlVehicle) { v.Gravity = span(98, 201) }, 1, 0, api.ErrRange},
	{func(v *api.FlVehicle) { v.Gravity = span(99, 98) }, 1, 0, api.ErrRange},
	{func(v *api.FlVehicle) { v.Name, v.Gravity = "", span(1, 0) }, 1, 0, api.ErrForm},
	{func(v *api.FlVehicle) { v.Gravity, v.Air = only(201), manyAirs(21) }, 1, 0, api.ErrRange},
	// Part 2.
	{func(v *api.FlVehicle) { v.Air = nil }, 0, 0, api.OK},
	{func(v *api.FlVehicle) { v.Air = manyAirs(20) }, 0, 0, api.OK},
	{func(v *api.FlVehicle) { v.Air = manyAirs(21) }, 2, 0, api.ErrLong},
	{func(v *api.FlVehicle) { v.Air = append(manyAirs(20), api.FlAir{From: -1, Dens: -1}) }, 2, 0, api.ErrLong},
	{func(v *api.FlVehicle) { v.Air = make([]api.FlAir, 21) }, 2, 0, api.ErrLong},
	{func(v *api.FlVehicle) { v.Air, v.Phases = manyAirs(21), nil }, 2, 0, api.ErrLong},
	{func(v *api.FlVehicle) { v.Air[0].From = 1 }, 2, 0, api.ErrArg},
	{func(v *api.FlVehicle) { v.Air[0].From = -1 }, 2, 0, api.ErrArg},
	{func(v *api.FlVehicle) { v.Air[0].From = math.MaxInt }, 2, 0, api.ErrArg},
	{func(v *api.FlVehicle) { v.Air[0].From, v.Air[0].Dens = 1, -1 }, 2, 0, api.ErrArg},
	{func(v *api.FlVehicle) { v.Air[1].From = 0 }, 2, 1, api.ErrArg},
	{func(v *api.FlVehicle) { v.Air[1].From = -5 }, 2, 1, api.ErrArg},
	{func(v *api.FlVehicle) { v.Air[1].From = 1 }, 0, 0, api.OK},
	{func(v *api.FlVehicle) { v.Air[2].From = 5000 }, 2, 2, api.ErrArg},
	{func(v *api.FlVehicle) { v.Air[2].From, v.Air[2].Dens = 5000, 1001 }, 2, 2, api.ErrArg},
	{func(v *api.FlVehicle) { v.Air[2].From = 5001 }, 0, 0, api.OK},
	{func(v *api.FlVehicle) { v.Air[2].From = api.MaxPlace }, 0, 0, api.OK},
	{func(v *api.FlVehicle) { v.Air[2].From = api.MaxPlace + 1 }, 2, 2, api.ErrRange},
	{func(v *api.FlVehicle) { v.Air[2].From = math.MaxInt }, 2, 2, api.ErrRange},
	{func(v *api.FlVehicle) { v.Air[0].Dens, v.Air[1].Dens = 0, 1000 }, 0, 0, api.OK},
	{func(v *api.FlVehicle) { v.Air[1].Dens = -1 }, 2, 1, api.ErrRange},
	{func(v *api.FlVehicle) { v.Air[1].Dens = 1001 }, 2, 1, api.ErrRange},
	{func(v *api.FlVehicle) { v.Air[1].Dens, v.Air[2].From = 1001, 0 }, 2, 1, api.ErrRange},
	{func(v *api.FlVehicle) { v.Air[1].Dens, v.Phases = 1001, nil }, 2, 1, api.ErrRange},
	// Part 3.
	{func(v *api.FlVehicle) { v.Phases = nil }, 3, 0, api.ErrLong},
	{func(v *api.FlVehicle) { v.Phases = []api.FlPhase{} }, 3, 0, api.ErrLong},
	{func(v *api.FlVehicle) { v.Phases = manyPhases(12) }, 0, 0, api.OK},
	{func(v *api.FlVehicle) { v.Phases = manyPhases(13) }, 3, 0, api.ErrLong},
	{func(v *api.FlVehicle) { v.Phases = make([]api.FlPhase, 13) }, 3, 0, api.ErrLong},
	{func(v *api.FlVehicle) { v.Phases = make([]api.FlPhase, 12) }, 3, 0, api.ErrRange},
	{func(v *api.FlVehicle) { v.Phases, v.Pieces = nil, manyPieces(7) }, 3, 0, api.ErrLong},
	{func(v *api.FlVehicle) { v.Phases[1].Ticks = 0 }, 3, 1, api.ErrRange},
	{func(v *api.FlVehicle) { v.Phases[1].Ticks = 1 }, 0, 0, api.OK},
	{func(v *api.FlVehicle) { v.Phases[1].Ticks = 3000 }, 0, 0, api.OK},
	{func(v *api.FlVehicle) { v.Phases[1].Ticks = 3001 }, 3, 1, api.ErrRange},
	{func(v *api.FlVehicle) { v.Phases[1].Ticks = math.MinInt }, 3, 1, api.ErrRange},
	{func(v *api.FlVehicle) { v.Phases[0].Thrust = span(0, 2000000) }, 0, 0, api.OK},
	{func(v *api.FlVehicle) { v.Phases[0].Thrust = span(-1, 1) }, 3, 0, api.ErrRange},
	{func(v *api.FlVehicle) { v.Phases[0].Thrust = span(0, 2000001) }, 3, 0, api.ErrRange},
	{func(v *api.FlVehicle) { v.Phases[0].Thrust = span(2, 1) }, 3, 0, api.ErrRange},
	{func(v *api.FlVehicle) { v.Phases[0].Mass = span(1, 100000) }, 0, 0, api.OK},
	{func(v *api.FlVehicle) { v.Phases[0].Mass = span(0, 5) }, 3, 0, api.ErrRange},
	{func(v *api.FlVehicle) { v.Phases[0].Mass = span(1, 100001) }, 3, 0, api.ErrRange},
	{func(v *api.FlVehicle) { v.Phases[0].Mass = span(6, 5) }, 3, 0, api.ErrRange},
	{func(v *api.FlVehicle) { v.Phases[0].Drag = span(0, 1000) }, 0, 0, api.OK},
	{func(v *api.FlVehicle) { v.Phases[0].Drag = span(-1, 5) }, 3, 0, api.ErrRange},
	{func(v *api.FlVehicle) { v.Phases[0].Drag = span(0, 1001) }, 3, 0, api.ErrRange},
	{func(v *api.FlVehicle) { v.Phases[0].Drag = span(6, 5) }, 3, 0, api.ErrRange},
	{func(v *api.FlVehicle) {
		v.Phases[1].Tilt = api.FlTilt{X: span(-2000, 2000), Y: span(-2000, -2000), Z: span(2000, 2000)}
	}, 0, 0, api.OK},
	{func(v *api.FlVehicle) { v.Phases[1].Tilt.X.Lo = -2001 }, 3, 1, api.ErrRange},
	{func(v *api.FlVehicle) { v.Phases[1].Tilt.X.Hi = 2001 }, 3, 1, api.ErrRange},
	{func(v *api.FlVehicle) { v.Phases[1].Tilt.Y.Lo = -2001 }, 3, 1, api.ErrRange},
	{func(v *api.FlVehicle) { v.Phases[1].Tilt.Y.Hi = 2001 }, 3, 1, api.ErrRange},
	{func(v *api.FlVehicle) { v.Phases[1].Tilt.Z.Lo = -2001 }, 3, 1, api.ErrRange},
	{func(v *api.FlVehicle) { v.Phases[1].Tilt.Z.Hi = 2001 }, 3, 1, api.ErrRange},
	{func(v *api.FlVehicle) { v.Phases[1].Tilt.X = span(1, 0) }, 3, 1, api.ErrRange},
	{func(v *api.FlVehicle) { v.Phases[1].Tilt.Y = span(1, 0) }, 3, 1, api.ErrRange},
	{func(v *api.FlVehicle) { v.Phases[1].Tilt.Z = span(1, 0) }, 3, 1, api.ErrRange},
	{func(v *api.FlVehicle) { v.Phases[1].Ticks, v.Phases[0].Mass = 0, only(0) }, 3, 0, api.ErrRange},
	{func(v *api.FlVehicle) { v.Phases[1].Ticks, v.Pieces[0].Name = 0, "" }, 3, 1, api.ErrRange},
	// Part 4.
	{func(v *api.FlVehicle) { v.Pieces = nil }, 0, 0, api.OK},
	{func(v *api.FlVehicle) { v.Pieces = manyPieces(6) }, 0, 0, api.OK},
	{func(v *api.FlVehicle) { v.Pieces = manyPieces(7) }, 4, 0, api.ErrLong},
	{func(v *api.FlVehicle) { v.Pieces = make([]api.FlPiece, 7) }, 4, 0, api.ErrLong},
	{func(v *api.FlVehicle) { v.Pieces = make([]api.FlPiece, 6) }, 4, 0, api.ErrForm},
	{func(v *api.FlVehicle) { v.Pieces[1].Name = "no name" }, 4, 1, api.ErrForm},
	{func(v *api.FlVehicle) { v.Pieces[1].Name, v.Pieces[1].At = "", 0 }, 4, 1, api.ErrForm},
	{func(v *api.FlVehicle) { v.Pieces[0].Name, v.Pieces[1].Name = "", "" }, 4, 0, api.ErrForm},
	{func(v *api.FlVehicle) { v.Pieces[1].Name = "tail" }, 4, 1, api.ErrTwice},
	{func(v *api.FlVehicle) { v.Pieces[1].Name, v.Pieces[1].At = "tail", 0 }, 4, 1, api.ErrTwice},
	{func(v *api.FlVehicle) { v.Pieces = append(v.Pieces, v.Pieces[0]) }, 4, 2, api.ErrTwice},
	{func(v *api.FlVehicle) { v.Pieces = append(v.Pieces, v.Pieces[1]) }, 4, 2, api.ErrTwice},
	{func(v *api.FlVehicle) { v.Pieces[0].At, v.Pieces[1].Name = 0, "tail" }, 4, 0, api.ErrRange},
	{func(v *api.FlVehicle) { v.Pieces[1].At = 0 }, 4, 1, api.ErrRange},
	{func(v *api.FlVehicle) { v.Pieces[1].At = 1 }, 0, 0, api.OK},
	{func(v *api.FlVehicle) { v.Pieces[1].At = 3000 }, 0, 0, api.OK},
	{func(v *api.FlVehicle) { v.Pieces[1].At = 3001 }, 4, 1, api.ErrRange},
	{func(v *api.FlVehicle) { v.Pieces[0].Mass = span(1, 100000) }, 0, 0, api.OK},
	{func(v *api.FlVehicle) { v.Pieces[0].Mass = span(0, 1) }, 4, 0, api.ErrRange},
	{func(v *api.FlVehicle) { v.Pieces[0].Mass = span(1, 100001) }, 4, 0, api.ErrRange},
	{func(v *api.FlVehicle) { v.Pieces[0].Mass = span(4, 3) }, 4, 0, api.ErrRange},
	{func(v *api.FlVehicle) { v.Pieces[0].Drag = span(0, 1000) }, 0, 0, api.OK},
	{func(v *api.FlVehicle) { v.Pieces[0].Drag = span(-1, 1) }, 4, 0, api.ErrRange},
	{func(v *api.FlVehicle) { v.Pieces[0].Drag = span(1, 1001) }, 4, 0, api.ErrRange},
	{func(v *api.FlVehicle) { v.Pieces[0].Drag = span(4, 3) }, 4, 0, api.ErrRange},
	{func(v *api.FlVehicle) {
		v.Pieces[0].Kick = api.FlTilt{X: span(-1000000, 1000000), Y: span(-1000000, -1000000), Z: span(1000000, 1000000)}
	}, 0, 0, api.OK},
	{func(v *api.FlVehicle) { v.Pieces[0].Kick.X.Lo = -1000001 }, 4, 0, api.ErrRange},
	{func(v *api.FlVehicle) { v.Pieces[0].Kick.X.Hi = 1000001 }, 4, 0, api.ErrRange},
	{func(v *api.FlVehicle) { v.Pieces[0].Kick.Y.Lo = -1000001 }, 4, 0, api.ErrRange},
	{func(v *api.FlVehicle) { v.Pieces[0].Kick.Y.Hi = 1000001 }, 4, 0, api.ErrRange},
	{func(v *api.FlVehicle) { v.Pieces[0].Kick.Z.Lo = -1000001 }, 4, 0, api.ErrRange},
	{func(v *api.FlVehicle) { v.Pieces[0].Kick.Z.Hi = 1000001 }, 4, 0, api.ErrRange},
	{func(v *api.FlVehicle) { v.Pieces[0].Kick.X = span(1, 0) }, 4, 0, api.ErrRange},
	{func(v *api.FlVehicle) { v.Pieces[0].Kick.Y = span(1, 0) }, 4, 0, api.ErrRange},
	{func(v *api.FlVehicle) { v.Pieces[0].Kick.Z = span(1, 0) }, 4, 0, api.ErrRange},
	{func(v *api.FlVehicle) { v.Pieces[1].Floor = 0 }, 0, 0, api.OK},
	{func(v *api.FlVehicle) { v.Pieces[1].Floor = -1 }, 4, 1, api.ErrRange},
	{func(v *api.FlVehicle) { v.Pieces[1].Floor = api.MaxPlace }, 0, 0, api.OK},
	{func(v *api.FlVehicle) { v.Pieces[1].Floor = api.MaxPlace + 1 }, 4, 1, api.ErrRange},
}

// P2.1, and the first error of all other functions with a vehicle.
func TestCheck(t *testing.T) {
	for i, c := range wrong {
		v := full()
		c.change(&v)
		if part, at, e := flight.Check(v); part != c.part || at != c.at || e != c.e {
			t.Errorf("%d: Check = %d, %d, %d", i, part, at, e)
		}
		if c.e == api.OK {
			continue
		}
		bad := api.FlDir{}
		_, e1 := flight.Air(v, span(1, 0))
		_, e2 := flight.Force(v, bad, nil, -1, api.FlState{})
		_, e3 := flight.Fly(v, bad, nil, -1)
		_, e4 := flight.Piece(v, bad, nil, -1, -1)
		_, e5 := flight.Top(v, bad, nil, -1)
		_, e6 := flight.Impacts(v, bad, nil)
		_, e7 := flight.Own(v, bad, nil, nil)
		for j, e := range []api.Errno{e1, e2, e3, e4, e5, e6, e7} {
			if e != c.e {
				t.Errorf("%d: the error of the function %d is %d", i, j, e)
			}
		}
	}
}

// P2.1, and the second and the third error of the other functions.
func TestCheckDir(t *testing.T) {
	for i, c := range []struct {
		d api.FlDir
		e api.Errno
	}{
		{straight, api.OK},
		{api.FlDir{X: 6000, Z: 8000}, api.OK},
		{api.FlDir{X: -6000, Z: 8000}, api.OK},
		{api.FlDir{Y: -6000, Z: 8000}, api.OK},
		{api.FlDir{X: api.Unit, Z: 1}, api.OK},
		{api.FlDir{X: -api.Unit, Z: 1}, api.OK},
		{api.FlDir{Y: api.Unit, Z: 1}, api.OK},
		{api.FlDir{Y: -api.Unit, Z: 1}, api.OK},
		{api.FlDir{X: api.Unit + 1, Z: 1}, api.ErrRange},
		{api.FlDir{X: -api.Unit - 1, Z: 1}, api.ErrRange},
		{api.FlDir{Y: api.Unit + 1, Z: 1}, api.ErrRange},
		{api.FlDir{Y: -api.Unit - 1, Z: 1}, api.ErrRange},
		{api.FlDir{Z: api.Unit + 1}, api.ErrRange},
		{api.FlDir{X: api.Unit}, api.ErrRange},
		{api.FlDir{X: 6000, Z: -8000}, api.ErrRange},
		{api.FlDir{}, api.ErrRange},
		{api.FlDir{X: math.MaxInt, Y: math.MinInt, Z: math.MinInt}, api.ErrRange},
		{api.FlDir{Z: math.MaxInt}, api.ErrRange},
		{api.FlDir{X: 1 << 32, Z: api.Unit}, api.ErrRange},
		// The sum of the squares, by one number.
		{api.FlDir{Z: 9990}, api.OK},
		{api.FlDir{Z: 9989}, api.ErrArg},
		{api.FlDir{X: 28, Y: -446, Z: 9980}, api.OK},     // 99800100
		{api.FlDir{X: -75, Y: 307, Z: 9985}, api.ErrArg}, // 99800099
		{api.FlDir{X: -24, Y: 632, Z: 9990}, api.OK},     // 100200100
		{api.FlDir{X: 74, Y: -612, Z: 9991}, api.ErrArg}, // 100200101
		{api.FlDir{X: 10000, Y: 448, Z: 1}, api.ErrArg},
		{api.FlDir{Z: 1}, api.ErrArg},
	} {
		if e := flight.CheckDir(c.d); e != c.e {
			t.Errorf("%d: CheckDir: %d", i, e)
		}
		if c.e == api.OK {
			continue
		}
		v := full()
		_, e1 := flight.Force(v, c.d, nil, -1, api.FlState{})
		_, e2 := flight.Fly(v, c.d, nil, -1)
		_, e3 := flight.Piece(v, c.d, nil, -1, -1)
		_, e4 := flight.Top(v, c.d, nil, -1)
		_, e5 := flight.Impacts(v, c.d, nil)
		_, e6 := flight.Own(v, c.d, nil, nil)
		for j, e := range []api.Errno{e1, e2, e3, e4, e5, e6} {
			if e != c.e {
				t.Errorf("%d: the error of the function %d is %d", i, j, e)
			}
		}
	}
}

// P2.1: the error of wind.CheckBands comes third.
func TestBandsAreChecked(t *testing.T) {
	v := full()
	for i, c := range []struct {
		l []api.WnBand
		e api.Errno
	}{
		{nil, api.ErrLong},
		{make([]api.WnBand, 21), api.ErrLong},
		{[]api.WnBand{band(1, 2, only(0), only(0))}, api.ErrArg},
		{[]api.WnBand{band(0, 2, span(1, 0), only(0))}, api.ErrRange},
	} {
		_, e1 := flight.Winds(c.l, span(1, 0))
		_, e2 := flight.Force(v, straight, c.l, -1, api.FlState{})
		_, e3 := flight.Fly(v, straight, c.l, -1)
		_, e4 := flight.Piece(v, straight, c.l, -1, -1)
		_, e5 := flight.Top(v, straight, c.l, -1)
		_, e6 := flight.Impacts(v, straight, c.l)
		_, e7 := flight.Own(v, straight, c.l, nil)
		for j, e := range []api.Errno{e1, e2, e3, e4, e5, e6, e7} {
			if e != c.e {
				t.Errorf("%d: the error of the function %d is %d", i, j, e)
			}
		}
	}
}
