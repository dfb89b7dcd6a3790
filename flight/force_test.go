package flight_test

import (
	"math"
	"math/rand"
	"testing"

	"hangfire/api"
	"hangfire/flight"
)

// P2.3: the chapter's examples, and each part of a force by itself.
func TestForce(t *testing.T) {
	with := func(f func(v *api.FlVehicle)) api.FlVehicle {
		v := dragged()
		f(&v)
		return v
	}
	up := api.FlState{VZ: only(10000), Z: only(5000)}
	least := func(v *api.FlVehicle) { v.Air[0].Dens, v.Phases[0].Mass, v.Phases[0].Drag = 1, only(1), only(1) }
	most := func(v *api.FlVehicle) { v.Phases[0].Mass, v.Phases[0].Drag = only(1), only(1000) }
	for i, c := range []struct {
		v       api.FlVehicle
		d       api.FlDir
		tick    int
		s       api.FlState
		x, y, z api.Span
	}{
		{dart(), straight, 0, api.FlState{}, span(-1, 1), only(0), only(902)},
		{dart(), straight, 1, api.FlState{}, span(-1, 1), only(0), only(902)},
		{dart(), straight, 2, api.FlState{}, only(0), only(0), only(-98)},
		{dart(), straight, 3000, api.FlState{}, only(0), only(0), only(-98)},
		{dragged(), straight, 2, api.FlState{VX: only(300), VZ: only(10000), Z: only(5000)}, only(0), only(0), only(-198)},
		{dragged(), straight, 2, up, span(3, 4), only(0), span(-199, -198)},
		// Thrust: by its span, by that of the mass, by the direction and by the tilt, also against the direction. (On the vehicle that stands still the wind has a drag of -1 to 0.)
		{with(func(v *api.FlVehicle) { v.Phases[0].Thrust = span(1000, 2000) }), straight, 0, api.FlState{}, span(-2, 3), only(0), span(902, 1902)},
		{with(func(v *api.FlVehicle) { v.Phases[0].Mass = span(10, 30) }), straight, 0, api.FlState{}, span(-1, 2), only(0), span(235, 902)},
		{dart(), api.FlDir{X: -6000, Z: 8000}, 0, api.FlState{}, span(-601, -599), only(0), only(702)},
		{with(func(v *api.FlVehicle) { v.Phases[0].Mass = span(10, 30) }), api.FlDir{Y: -6000, Z: 8000}, 0, api.FlState{}, span(-1, 2), span(-600, -200), span(168, 702)},
		{with(func(v *api.FlVehicle) { v.Phases[0].Tilt = api.FlTilt{Y: span(7, 9), Z: span(-100, -50)} }), straight, 0, api.FlState{}, span(0, 1), span(0, 1), span(892, 897)},
		{with(func(v *api.FlVehicle) { v.Phases[0].Tilt = api.FlTilt{Z: span(-2000, -1000)} }), api.FlDir{X: 10000, Z: 1}, 0, api.FlState{}, span(1000, 1001), only(0), span(-298, -197)},
		// The tilt does not matter where there is no thrust.
		{with(func(v *api.FlVehicle) { v.Phases[0].Thrust = only(0) }), straight, 0, api.FlState{}, span(0, 1), only(0), only(-98)},
		// Gravity.
		{with(func(v *api.FlVehicle) { v.Gravity = span(95, 100) }), straight, 0, api.FlState{}, span(-1, 2), only(0), span(900, 905)},
		// Drag: it is in the direction of what goes past, and at least that of 0 where the speed may be 0.
		{dragged(), straight, 2, api.FlState{VX: only(300), VZ: span(-10000, 10000)}, only(0), only(0), span(-198, 2)},
		{dragged(), straight, 2, api.FlState{VX: only(300), VZ: only(-10000)}, only(0), only(0), only(2)},
		{dragged(), straight, 2, api.FlState{VX: only(300), VY: only(-10000)}, only(0), only(100), only(-98)},
		{dragged(), straight, 2, api.FlState{VX: only(10300)}, only(-100), only(0), only(-98)},
		{with(func(v *api.FlVehicle) { v.Air[0].Dens = 0 }), straight, 2, up, only(0), only(0), only(-98)},
		{with(func(v *api.FlVehicle) { v.Air = nil }), straight, 2, up, only(0), only(0), only(-98)},
		{with(func(v *api.FlVehicle) { v.Phases[0].Drag = span(0, 20) }), straight, 2, up, span(0, 7), only(0), span(-299, -98)},
		{with(func(v *api.FlVehicle) { v.Phases[0].Mass = span(5, 20) }), straight, 2, up, span(1, 7), only(0), span(-299, -148)},
		// The least quotients there are, rounded away from 0.
		{with(least), straight, 2, api.FlState{VX: only(1), Z: only(100000)}, span(-1, 0), only(0), only(-98)},
		{with(least), straight, 2, api.FlState{VX: only(-1), Z: only(100000)}, span(0, 1), only(0), only(-98)},
		// The square of a span on both sides of 0 begins at 0: the sum is from 5001 squared less 1, so the length from 5000.
		{with(most), straight, 2, api.FlState{VX: span(-1, 1), VY: only(1000), VZ: only(4900), Z: only(100000)}, span(-6, 6), span(-5001, -5000), span(-24603, -24598)},
		{with(most), straight, 2, api.FlState{VX: span(-1, 0), VY: only(-1000), VZ: only(4900), Z: only(100000)}, span(0, 6), span(5000, 5001), span(-24603, -24598)},
		// There is neither wind above the bands, nor, in part of the state, air above 5000.
		{dragged(), straight, 2, api.FlState{VZ: only(10000), Z: only(100000)}, only(0), only(0), only(-198)},
		{dragged(), straight, 2, api.FlState{VZ: only(10000), Z: span(99999, 100000)}, span(0, 4), only(0), span(-199, -198)},
		{with(func(v *api.FlVehicle) { v.Air = append(v.Air, api.FlAir{From: 5000}) }), straight, 2, up, only(0), only(0), only(-98)},
		{with(func(v *api.FlVehicle) { v.Air = append(v.Air, api.FlAir{From: 5000}) }), straight, 2, api.FlState{VX: only(300), VZ: only(10000), Z: span(4999, 5000)}, only(0), only(0), span(-198, -98)},
	} {
		f, e := flight.Force(c.v, c.d, breeze(), c.tick, c.s)
		if f != (api.FlForce{X: c.x, Y: c.y, Z: c.z}) || e != api.OK {
			t.Errorf("%d: Force = %v, %d", i, f, e)
		}
	}
}

// P2.3
func TestForceOfPhases(t *testing.T) {
	v := dart()
	v.Phases = []api.FlPhase{
		{Ticks: 1, Thrust: only(1000), Mass: only(10)},
		{Ticks: 3, Thrust: only(500), Mass: only(5), Tilt: api.FlTilt{Z: only(10)}},
		{Ticks: 2, Thrust: only(100), Mass: only(1), Drag: only(1), Tilt: api.FlTilt{Y: only(10)}},
	}
	v.Air = []api.FlAir{{Dens: 1000}}
	for tick, want := range map[int]api.FlForce{
		0: {Z: only(902)}, 1: {Z: only(903)}, 3: {Z: only(903)}, 4: {Y: only(1), Z: only(902)}, 5: {Y: only(1), Z: only(902)},
		// The last phase goes on without thrust, and with its mass and drag.
		6: {Z: only(-198)}, 7: {Z: only(-198)}, 3000: {Z: only(-198)},
	} {
		s := api.FlState{}
		if tick > 5 {
			s.VZ = only(10000)
		}
		if f, e := flight.Force(v, straight, calm(), tick, s); f != want || e != api.OK {
			t.Errorf("Force at %d = %v, %d", tick, f, e)
		}
	}
}

// P2.3
func TestForceErrors(t *testing.T) {
	v := dart()
	for _, tick := range []int{-1, 3001, math.MinInt, math.MaxInt} {
		if f, e := flight.Force(v, straight, calm(), tick, api.FlState{}); f != (api.FlForce{}) || e != api.ErrRange {
			t.Errorf("Force at %d = %v, %d", tick, f, e)
		}
	}
	for i := range 6 {
		most := api.MaxPlace
		if i > 2 {
			most = api.MaxSpeed
		}
		for j, c := range []struct {
			s api.Span
			e api.Errno
		}{
			{span(-most, most), api.OK},
			{only(most), api.OK},
			{only(-most), api.OK},
			{span(-most-1, 0), api.ErrRange},
			{span(0, most+1), api.ErrRange},
			{span(1, 0), api.ErrRange},
			{span(most, -most), api.ErrRange},
			{span(math.MinInt, math.MaxInt), api.ErrRange},
			{span(math.MaxInt, math.MinInt), api.ErrRange},
		} {
			var s api.FlState
			*spansOf(&s)[i] = c.s
			if f, e := flight.Force(v, straight, calm(), 0, s); e != c.e || e != api.OK && f != (api.FlForce{}) {
				t.Errorf("%d, %d: Force = %v, %d", i, j, f, e)
			}
		}
	}
}

// randomSpan returns a span of some numbers from lo to hi, often narrow, often with an end.
func randomSpan(r *rand.Rand, lo, hi int) api.Span {
	switch r.Intn(6) {
	case 0:
		return span(lo, hi)
	case 1:
		return only([]int{lo, hi}[r.Intn(2)])
	case 2:
		a, b := lo+r.Intn(hi-lo+1), lo+r.Intn(hi-lo+1)
		return span(min(a, b), max(a, b))
	}
	return clip(about(r, lo+r.Intn(hi-lo+1), 4), lo, hi)
}

// anyVehicle returns one whose numbers are anything that is stated.
func anyVehicle(r *rand.Rand) api.FlVehicle {
	tilt := func(most int) api.FlTilt {
		return api.FlTilt{X: randomSpan(r, -most, most), Y: randomSpan(r, -most, most), Z: randomSpan(r, -most, most)}
	}
	v := api.FlVehicle{Name: "any", Gravity: randomSpan(r, 0, api.MaxFlGravity)}
	from := 0
	for range r.Intn(4) {
		v.Air = append(v.Air, api.FlAir{From: from, Dens: []int{0, 1, r.Intn(1001), 1000}[r.Intn(4)]})
		from += 1 + r.Intn([]int{3, 10000, api.MaxPlace / 8}[r.Intn(3)])
	}
	mass := func() api.Span { return randomSpan(r, 1, []int{5, 100, api.MaxFlMass}[r.Intn(3)]) }
	for range 1 + r.Intn(3) {
		v.Phases = append(v.Phases, api.FlPhase{
			Ticks: 1 + r.Intn(5), Thrust: randomSpan(r, 0, []int{100, api.MaxFlThrust}[r.Intn(2)]), Mass: mass(),
			Drag: randomSpan(r, 0, []int{10, api.MaxFlDrag}[r.Intn(2)]), Tilt: tilt(api.MaxFlTilt),
		})
	}
	return v
}

func anyState(r *rand.Rand) api.FlState {
	var s api.FlState
	for i, x := range spansOf(&s) {
		most := []int{3, 10000, api.MaxPlace}[r.Intn(3)]
		if i > 2 {
			most = min(most, api.MaxSpeed)
		}
		*x = randomSpan(r, -most, most)
	}
	return s
}

func anyBands(r *rand.Rand) []api.WnBand {
	var l []api.WnBand
	from := 0
	for range 1 + r.Intn(4) {
		to := from + 1 + r.Intn([]int{3, 10000, api.MaxWnHeight / 4}[r.Intn(3)])
		most := []int{3, api.MaxWnWind}[r.Intn(2)]
		l = append(l, band(from, min(to, api.MaxWnHeight), randomSpan(r, -most, most), randomSpan(r, -most, most)))
		from = to
	}
	return l
}

// P2.3: the definition, by single numbers, up to the limits.
func TestForceByNumbers(t *testing.T) {
	r := rand.New(rand.NewSource(23))
	for range 10000 {
		v, d, l, s, tick := anyVehicle(r), randomDir(r), anyBands(r), anyState(r), r.Intn(20)
		if r.Intn(4) == 0 {
			d = []api.FlDir{straight, {X: api.Unit, Z: 1}, {Y: -api.Unit, Z: 1}}[r.Intn(3)]
		}
		want := forceOn(v, d, l, phaseAt(v, tick), s)
		if f, e := flight.Force(v, d, l, tick, s); f != want || e != api.OK {
			t.Fatalf("Force = %v, %d and not %v at %d of %v, %v, %v on %v", f, e, want, tick, v, d, l, s)
		}
	}
}

// P2.3: the greatest numbers there are.
func TestGreatestForce(t *testing.T) {
	all, wide, winds := span(-api.MaxPlace, api.MaxPlace), span(-api.MaxSpeed, api.MaxSpeed), span(-api.MaxWnWind, api.MaxWnWind)
	v := api.FlVehicle{
		Name: "all", Gravity: span(0, api.MaxFlGravity), Air: []api.FlAir{{Dens: api.MaxFlDens}},
		Phases: []api.FlPhase{{Ticks: 1, Thrust: span(0, api.MaxFlThrust), Mass: span(1, api.MaxFlMass), Drag: span(0, api.MaxFlDrag)}},
	}
	l := []api.WnBand{band(0, api.MaxWnHeight, winds, winds)}
	s := api.FlState{X: all, Y: all, Z: all, VX: wide, VY: wide, VZ: wide}
	// The greatest length is the root of 2 1020000 squared and 1000000 squared, 1755220.8, rounded up; the greatest thrust 20000000.
	side := 1020000 * 1755221 / 1000
	want := api.FlForce{X: span(-side, side), Y: span(-side, side), Z: span(-1755221000-200, 1755221000+20000000)}
	if f, e := flight.Force(v, straight, l, 0, s); f != want || e != api.OK {
		t.Errorf("Force = %v, %d and not %v", f, e, want)
	}
}
