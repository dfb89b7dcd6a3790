package flight_test

import (
	"math/rand"
	"slices"

	"hangfire/api"
)

func span(lo, hi int) api.Span { return api.Span{Lo: lo, Hi: hi} }

func only(n int) api.Span { return span(n, n) }

func band(from, to int, x, y api.Span) api.WnBand {
	return api.WnBand{From: from, To: to, X: x, Y: y}
}

// lies reports whether the span a is in the span b.
func lies(a, b api.Span) bool { return b.Lo <= a.Lo && a.Hi <= b.Hi }

func has(s api.Span, n int) bool { return s.Lo <= n && n <= s.Hi }

func hull(a, b api.Span) api.Span { return span(min(a.Lo, b.Lo), max(a.Hi, b.Hi)) }

// straight is the direction D of the chapter's examples.
var straight = api.FlDir{Z: api.Unit}

// dart is the vehicle V of the chapter's examples.
func dart() api.FlVehicle {
	return api.FlVehicle{
		Name: "dart", Gravity: only(98),
		Phases: []api.FlPhase{{Ticks: 2, Thrust: only(1000), Mass: only(10), Tilt: api.FlTilt{X: span(-10, 10)}}},
	}
}

// dragged is the same one with air, and with a drag.
func dragged() api.FlVehicle {
	v := dart()
	v.Phases[0].Drag = only(10)
	v.Air = []api.FlAir{{Dens: 1000}}
	return v
}

// breeze is the bands of the chapter's examples.
func breeze() []api.WnBand { return []api.WnBand{band(0, 100000, only(300), only(0))} }

// calm is no wind.
func calm() []api.WnBand { return []api.WnBand{band(0, 1, only(0), only(0))} }

// full is a vehicle with something of all, that has no error and comes down.
func full() api.FlVehicle {
	v := dart()
	v.Air = []api.FlAir{{From: 0, Dens: 1000}, {From: 5000, Dens: 500}, {From: 9000, Dens: 100}}
	v.Phases = append(v.Phases, api.FlPhase{Ticks: 5, Thrust: span(500, 510), Mass: span(8, 9), Drag: span(2, 3)})
	v.Pieces = []api.FlPiece{
		{Name: "tail", At: 2, Mass: only(3), Drag: span(4, 5), Kick: api.FlTilt{Z: span(-20, -10)}},
		{Name: "nose", At: 9, Mass: span(1, 2), Drag: only(1), Kick: api.FlTilt{X: span(5, 6), Y: span(-6, -5)}, Floor: 3000},
	}
	return v
}

func cloneVehicle(v api.FlVehicle) api.FlVehicle {
	v.Air, v.Phases, v.Pieces = slices.Clone(v.Air), slices.Clone(v.Phases), slices.Clone(v.Pieces)
	return v
}

func sameVehicle(a, b api.FlVehicle) bool {
	return a.Name == b.Name && a.Gravity == b.Gravity && slices.Equal(a.Air, b.Air) && slices.Equal(a.Phases, b.Phases) && slices.Equal(a.Pieces, b.Pieces)
}

// about returns a span of up to so many numbers beside n, that has n.
func about(r *rand.Rand, n, wide int) api.Span {
	return span(n-r.Intn(wide+1), n+r.Intn(wide+1))
}

// clip returns a span without the numbers outside of others.
func clip(s api.Span, lo, hi int) api.Span {
	return span(min(max(s.Lo, lo), hi), max(min(s.Hi, hi), lo))
}

// randomDir returns a direction that is not far from straight up.
func randomDir(r *rand.Rand) api.FlDir {
	for {
		d := api.FlDir{X: r.Intn(4001) - 2000, Y: r.Intn(4001) - 2000}
		for d.Z = 9000; d.X*d.X+d.Y*d.Y+d.Z*d.Z < api.Unit*api.Unit; {
			d.Z += 1 + r.Intn(10)
		}
		if n := d.X*d.X + d.Y*d.Y + d.Z*d.Z; d.Z <= api.Unit && n <= api.MaxFlSize*api.MaxFlSize {
			return d
		}
	}
}

func randomTilt(r *rand.Rand, size, wide int) api.FlTilt {
	part := func() api.Span { return about(r, r.Intn(2*size+1)-size, r.Intn(wide+1)) }
	return api.FlTilt{X: part(), Y: part(), Z: part()}
}

// randomVehicle returns one that flies some 10 m high, with air or without.
func randomVehicle(r *rand.Rand) api.FlVehicle {
	v := api.FlVehicle{Name: "a-1", Gravity: about(r, 95+r.Intn(10), r.Intn(2))}
	from := 0
	for range r.Intn(5) {
		v.Air = append(v.Air, api.FlAir{From: from, Dens: r.Intn(api.MaxFlDens + 1)})
		from += 1 + r.Intn(20000)
	}
	for range 1 + r.Intn(3) {
		mass := 5 + r.Intn(100)
		v.Phases = append(v.Phases, api.FlPhase{
			Ticks: 1 + r.Intn(6), Thrust: clip(about(r, mass*r.Intn(100), mass), 0, api.MaxFlThrust), Mass: about(r, mass, r.Intn(3)),
			Drag: clip(about(r, r.Intn(20), 2), 0, api.MaxFlDrag), Tilt: randomTilt(r, 100, 30),
		})
	}
	for i := range r.Intn(3) {
		mass := 3 + r.Intn(20)
		v.Pieces = append(v.Pieces, api.FlPiece{
			Name: string(rune('a'+i)) + "-2", At: 1 + r.Intn(30), Mass: about(r, mass, r.Intn(2)),
			Drag: clip(about(r, r.Intn(10), 2), 0, api.MaxFlDrag), Kick: randomTilt(r, 200, 20), Floor: r.Intn(2) * r.Intn(2000),
		})
	}
	return v
}

func randomBands(r *rand.Rand) []api.WnBand {
	var l []api.WnBand
	from := 0
	part := func() api.Span { return about(r, r.Intn(1001)-500, r.Intn(20)) }
	for range 1 + r.Intn(4) {
		to := from + 1 + r.Intn(10000)
		l = append(l, band(from, to, part(), part()))
		from = to
	}
	return l
}

// spansOf returns the six spans of a state.
func spansOf(s *api.FlState) [6]*api.Span {
	return [...]*api.Span{&s.X, &s.Y, &s.Z, &s.VX, &s.VY, &s.VZ}
}

// inState reports whether a point is in a state.
func inState(p api.FlPoint, s api.FlState) bool {
	return has(s.X, p.X) && has(s.Y, p.Y) && has(s.Z, p.Z) && has(s.VX, p.VX) && has(s.VY, p.VY) && has(s.VZ, p.VZ)
}

// coversState reports whether no span of a state is narrower than that of another one.
func coversState(a, b api.FlState) bool {
	l, m := spansOf(&a), spansOf(&b)
	for i := range l {
		if !lies(*m[i], *l[i]) {
			return false
		}
	}
	return true
}

func coversImpact(a, b api.FlImpact) bool {
	return a.Piece == b.Piece && lies(b.Area.X, a.Area.X) && lies(b.Area.Y, a.Area.Y) && lies(b.At, a.At)
}
