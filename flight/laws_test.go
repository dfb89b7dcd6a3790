package flight_test

import (
	"math"
	"math/rand"
	"slices"
	"testing"

	"hangfire/api"
	"hangfire/flight"
)

// task is what a flight needs.
type task struct {
	v api.FlVehicle
	d api.FlDir
	l []api.WnBand
}

func randomTask(r *rand.Rand) task {
	return task{randomVehicle(r), randomDir(r), randomBands(r)}
}

func (x task) clone() task { return task{cloneVehicle(x.v), x.d, slices.Clone(x.l)} }

// pick returns a number of a span, often an end.
func pick(r *rand.Rand, s api.Span) int {
	return []int{s.Lo, s.Hi, s.Lo + r.Intn(s.Hi-s.Lo+1)}[r.Intn(3)]
}

// stateOf returns the state that is a point alone.
func stateOf(p api.FlPoint) api.FlState {
	return api.FlState{X: only(p.X), Y: only(p.Y), Z: only(p.Z), VX: only(p.VX), VY: only(p.VY), VZ: only(p.VZ)}
}

// step returns a point that comes a tick after another one, by some force on that.
func (x task) step(t *testing.T, r *rand.Rand, tick int, p api.FlPoint) api.FlPoint {
	f, e := flight.Force(x.v, x.d, x.l, tick, stateOf(p))
	if e != api.OK {
		t.Fatalf("Force: %d on %v", e, p)
	}
	p.VX, p.VY, p.VZ = p.VX+pick(r, f.X), p.VY+pick(r, f.Y), p.VZ+pick(r, f.Z)
	p.X, p.Y, p.Z = p.X+p.VX, p.Y+p.VY, p.Z+p.VZ
	return p
}

// landsIn checks that a path, of which the first point is at a tick, comes down in an impact, at one of its ticks.
func landsIn(t *testing.T, path []api.FlPoint, first, floor int, x api.FlImpact) {
	p, tick, e := flight.Down(path, floor)
	if e != api.OK || !has(x.At, first+tick) || !has(x.Area.X, p.X) || !has(x.Area.Y, p.Y) {
		t.Fatalf("it comes down at %v, %d, %d, and not in %v", p, first+tick, e, x)
	}
}

// P2.8
func TestPathIsInStates(t *testing.T) {
	r := rand.New(rand.NewSource(28))
	down := 0
	for range 400 {
		x := randomTask(r)
		impacts, e := flight.Impacts(x.v, x.d, x.l)
		n := r.Intn(100)
		if e == api.OK {
			down++
			n = max(n, impacts[len(x.v.Pieces)].At.Hi)
		}
		all, f := flight.Fly(x.v, x.d, x.l, n)
		if f != api.OK {
			continue
		}
		for range 5 {
			path := []api.FlPoint{{}}
			for tick := range n {
				path = append(path, x.step(t, r, tick, path[tick]))
			}
			if at, e := flight.Own(x.v, x.d, x.l, path); at != -1 || e != api.OK {
				t.Fatalf("Own = %d, %d of %v, %v", at, e, x, path)
			}
			for i, p := range path {
				if !inState(p, all[i]) {
					t.Fatalf("%v is not in %v at %d of %v", p, all[i], i, x)
				}
			}
			if e == api.OK {
				landsIn(t, path, 0, 0, impacts[len(x.v.Pieces)])
			}
		}
	}
	if down < 100 {
		t.Errorf("%d come down", down)
	}
}

// P2.9
func TestPieceIsInStates(t *testing.T) {
	r := rand.New(rand.NewSource(29))
	down := 0
	for range 500 {
		x := randomTask(r)
		impacts, e := flight.Impacts(x.v, x.d, x.l)
		for i, p := range x.v.Pieces {
			n := r.Intn(50)
			if e == api.OK {
				down++
				n = max(n, impacts[i].At.Hi-p.At)
			}
			all, f := flight.Piece(x.v, x.d, x.l, i, n)
			if f != api.OK {
				continue
			}
			// The piece as a vehicle without thrust has the forces on it.
			alone := x.clone()
			alone.v.Phases = []api.FlPhase{{Ticks: 1, Mass: p.Mass, Drag: p.Drag}}
			before, _ := flight.Fly(x.v, x.d, x.l, p.At)
			for range 5 {
				s := before[p.At]
				path := []api.FlPoint{{X: pick(r, s.X), Y: pick(r, s.Y), Z: pick(r, s.Z), VX: pick(r, s.VX) + pick(r, p.Kick.X), VY: pick(r, s.VY) + pick(r, p.Kick.Y), VZ: pick(r, s.VZ) + pick(r, p.Kick.Z)}}
				for range n {
					path = append(path, alone.step(t, r, r.Intn(3000), path[len(path)-1]))
				}
				for j, q := range path {
					if !inState(q, all[j]) {
						t.Fatalf("%v is not in %v at %d of %v", q, all[j], j, x)
					}
				}
				if e == api.OK {
					landsIn(t, path, p.At, p.Floor, impacts[i])
				}
			}
		}
	}
	if down < 100 {
		t.Errorf("%d come down", down)
	}
}

// wider returns a task in which one span of a table, or of a wind, is wider, or a band or an entry is divided.
func wider(r *rand.Rand, x task) task {
	x = x.clone()
	wide := func(s api.Span, lo, hi int) api.Span {
		return clip(span(s.Lo-r.Intn(2), s.Hi+r.Intn(2)), lo, hi)
	}
	tilt := func(t api.FlTilt, most int) api.FlTilt {
		return api.FlTilt{X: wide(t.X, -most, most), Y: wide(t.Y, -most, most), Z: wide(t.Z, -most, most)}
	}
	p := &x.v.Phases[r.Intn(len(x.v.Phases))]
	b := &x.l[r.Intn(len(x.l))]
	switch r.Intn(9) {
	case 0:
		x.v.Gravity = wide(x.v.Gravity, 0, api.MaxFlGravity)
	case 1:
		p.Thrust = wide(p.Thrust, 0, api.MaxFlThrust)
	case 2:
		p.Mass = wide(p.Mass, 1, api.MaxFlMass)
	case 3:
		p.Drag = wide(p.Drag, 0, api.MaxFlDrag)
	case 4:
		p.Tilt = tilt(p.Tilt, api.MaxFlTilt)
	case 5:
		b.X, b.Y = wide(b.X, -api.MaxWnWind, api.MaxWnWind), wide(b.Y, -api.MaxWnWind, api.MaxWnWind)
	case 6:
		if i := r.Intn(len(x.l)); x.l[i].To-x.l[i].From > 1 {
			above := x.l[i]
			above.From += 1 + r.Intn(above.To-above.From-1)
			x.l[i].To = above.From
			x.l = slices.Insert(x.l, i+1, above)
		}
		top := x.l[len(x.l)-1]
		x.l = append(x.l, band(top.To, top.To+1+r.Intn(9000), span(-r.Intn(9), 0), span(0, r.Intn(9))))
	case 7:
		if i := r.Intn(len(x.v.Air) + 1); i > 0 { // the same air from a height in an entry on
			a := x.v.Air[i-1]
			a.From++
			if i == len(x.v.Air) || x.v.Air[i].From > a.From {
				x.v.Air = slices.Insert(x.v.Air, i, a)
			}
		}
	case 8:
		for i := range x.v.Pieces {
			q := &x.v.Pieces[i]
			q.Mass, q.Drag, q.Kick = wide(q.Mass, 1, api.MaxFlMass), wide(q.Drag, 0, api.MaxFlDrag), tilt(q.Kick, api.MaxSpeed)
		}
	}
	return x
}

// P2.10
func TestWider(t *testing.T) {
	r := rand.New(rand.NewSource(210))
	both, changed := 0, 0
	for range 1500 {
		x := randomTask(r)
		y := wider(r, x)
		a, ae := flight.Impacts(x.v, x.d, x.l)
		b, be := flight.Impacts(y.v, y.d, y.l)
		if ae != api.OK && be == api.OK {
			t.Fatalf("Impacts: %d and %d of %v and %v", ae, be, x, y)
		}
		if be == api.OK {
			both++
			for i := range a {
				if !coversImpact(b[i], a[i]) {
					t.Fatalf("Impacts = %v and %v of %v and %v", a, b, x, y)
				}
			}
			if !slices.Equal(a, b) {
				changed++
			}
		}
		n := r.Intn(60)
		al, ae := flight.Fly(x.v, x.d, x.l, n)
		bl, be := flight.Fly(y.v, y.d, y.l, n)
		coverAll(t, al, bl, ae, be)
		for i := range x.v.Pieces {
			al, ae := flight.Piece(x.v, x.d, x.l, i, n)
			bl, be := flight.Piece(y.v, y.d, y.l, i, n)
			coverAll(t, al, bl, ae, be)
		}
	}
	if both < 300 || changed < 100 {
		t.Errorf("%d come down, %d have other impacts", both, changed)
	}
}

// coverAll checks that no span of the states b is narrower than that of the states a.
func coverAll(t *testing.T, a, b []api.FlState, ae, be api.Errno) {
	if ae != api.OK && be == api.OK {
		t.Fatalf("the errors are %d and %d", ae, be)
	}
	for i := range b {
		if !coversState(b[i], a[i]) {
			t.Fatalf("the states are %v and %v", a[i], b[i])
		}
	}
}

func negative(s api.Span) api.Span { return span(-s.Hi, -s.Lo) }

// turned returns a task that is turned by a quarter: what was in the direction of X is in that of Y.
func turned(x task) task {
	x = x.clone()
	tilt := func(t *api.FlTilt) { t.X, t.Y = negative(t.Y), t.X }
	x.d.X, x.d.Y = -x.d.Y, x.d.X
	for i := range x.v.Phases {
		tilt(&x.v.Phases[i].Tilt)
	}
	for i := range x.v.Pieces {
		tilt(&x.v.Pieces[i].Kick)
	}
	for i, b := range x.l {
		x.l[i].X, x.l[i].Y = negative(b.Y), b.X
	}
	return x
}

// P2.11
func TestTurned(t *testing.T) {
	r := rand.New(rand.NewSource(211))
	down := 0
	for range 300 {
		x := randomTask(r)
		y := turned(x)
		a, ae := flight.Impacts(x.v, x.d, x.l)
		b, be := flight.Impacts(y.v, y.d, y.l)
		for i := range a {
			a[i].Area = area(negative(a[i].Area.Y), a[i].Area.X)
		}
		if ae != be || !slices.Equal(a, b) {
			t.Fatalf("Impacts = %v, %d and %v, %d of %v", a, ae, b, be, x)
		}
		if ae == api.OK {
			down++
		}
		al, ae := flight.Fly(x.v, x.d, x.l, 50)
		bl, be := flight.Fly(y.v, y.d, y.l, 50)
		sameTurned(t, al, bl, ae, be)
		for i := range x.v.Pieces {
			al, ae := flight.Piece(x.v, x.d, x.l, i, 50)
			bl, be := flight.Piece(y.v, y.d, y.l, i, 50)
			sameTurned(t, al, bl, ae, be)
		}
	}
	if down < 100 {
		t.Errorf("%d come down", down)
	}
}

func sameTurned(t *testing.T, a, b []api.FlState, ae, be api.Errno) {
	for i, s := range a {
		a[i].X, a[i].Y, a[i].VX, a[i].VY = negative(s.Y), s.X, negative(s.VY), s.VX
	}
	if ae != be || !slices.Equal(a, b) {
		t.Fatalf("%v, %d and %v, %d", a, ae, b, be)
	}
}

// P2.12
func TestAsFarAsItGoes(t *testing.T) {
	r := rand.New(rand.NewSource(212))
	later := 0
	for range 300 {
		x := randomTask(r)
		n := r.Intn(20)
		m := n + r.Intn(40)
		a, ae := flight.Fly(x.v, x.d, x.l, n)
		b, be := flight.Fly(x.v, x.d, x.l, m)
		if ae != api.OK && be == api.OK || be == api.OK && !slices.Equal(a, b[:n+1]) {
			t.Fatalf("Fly of %d: %v, %d; of %d: %v, %d", n, a, ae, m, b, be)
		}
		p, pe := flight.Top(x.v, x.d, x.l, n)
		q, qe := flight.Top(x.v, x.d, x.l, m)
		if pe != ae || qe != be || qe == api.OK && (q.Lo < p.Lo || q.Hi < p.Hi) {
			t.Fatalf("Top of %d: %v, %d; of %d: %v, %d", n, p, pe, m, q, qe)
		}
		// A phase that begins at n, or later.
		y := x.clone()
		ticks := 0
		for i, p := range y.v.Phases {
			if ticks >= n && i > 0 {
				later++
				y.v.Phases[i] = api.FlPhase{Ticks: 1 + r.Intn(9), Thrust: only(r.Intn(1000)), Mass: only(1 + r.Intn(9)), Drag: only(r.Intn(9))}
			}
			ticks += p.Ticks
		}
		if ticks >= n {
			later++
			y.v.Phases = append(y.v.Phases, api.FlPhase{Ticks: 1, Thrust: only(1000), Mass: only(1), Drag: only(1)})
		}
		if c, ce := flight.Fly(y.v, y.d, y.l, n); ce != ae || !slices.Equal(c, a) {
			t.Fatalf("Fly of %d: %v, %d and %v, %d of %v and %v", n, a, ae, c, ce, x, y)
		}
	}
	if later < 30 {
		t.Errorf("%d later phases", later)
	}
}

// P2.13
func TestWithoutAir(t *testing.T) {
	r := rand.New(rand.NewSource(213))
	for range 300 {
		v := api.FlVehicle{Name: "a", Gravity: only(r.Intn(201))}
		if r.Intn(2) == 0 {
			v.Air = []api.FlAir{{From: 0, Dens: 0}, {From: 1 + r.Intn(1000), Dens: 0}}
		}
		for range 1 + r.Intn(4) {
			mass := 1 + r.Intn(50)
			v.Phases = append(v.Phases, api.FlPhase{Ticks: 1 + r.Intn(9), Thrust: only(mass * r.Intn(200)), Mass: only(mass), Drag: only(r.Intn(1001))})
		}
		n := r.Intn(60)
		want := []api.FlState{{}}
		z, speed := 0, 0
		for tick := range n {
			p := phaseAt(v, tick)
			speed += p.Thrust.Lo*10/p.Mass.Lo - v.Gravity.Lo
			z += speed
			want = append(want, api.FlState{Z: only(z), VZ: only(speed)})
		}
		if l, e := flight.Fly(v, straight, calm(), n); !slices.Equal(l, want) || e != api.OK {
			t.Fatalf("Fly = %v, %d, and not %v of %v", l, e, want, v)
		}
	}
}

// P2.14: the arguments are as they were after all calls.
func TestArgumentsStay(t *testing.T) {
	r := rand.New(rand.NewSource(2141))
	for range 100 {
		x := randomTask(r)
		before := x.clone()
		path := []api.FlPoint{{}, {Z: 902, VZ: 902}, {Z: -1}}
		kept := slices.Clone(path)
		flight.Check(x.v)
		flight.CheckDir(x.d)
		flight.Winds(x.l, span(0, 9))
		flight.Air(x.v, span(0, 9))
		flight.Force(x.v, x.d, x.l, 0, api.FlState{})
		flight.Fly(x.v, x.d, x.l, 20)
		flight.Piece(x.v, x.d, x.l, 0, 20)
		flight.Top(x.v, x.d, x.l, 20)
		flight.Impacts(x.v, x.d, x.l)
		flight.Own(x.v, x.d, x.l, path)
		flight.Down(path, 0)
		if !sameVehicle(x.v, before.v) || x.d != before.d || !slices.Equal(x.l, before.l) || !slices.Equal(path, kept) {
			t.Fatalf("%v, %v were %v, %v", x, path, before, kept)
		}
	}
}

// P2.14: who changes a result changes neither the arguments nor a later result.
func TestResultsAreNew(t *testing.T) {
	v, l := full(), breeze()
	all, _ := flight.Fly(v, straight, l, 9)
	piece, _ := flight.Piece(v, straight, l, 0, 9)
	impacts, e := flight.Impacts(v, straight, l)
	if e != api.OK {
		t.Fatalf("Impacts: %d", e)
	}
	keptAll, keptPiece, keptImpacts := slices.Clone(all), slices.Clone(piece), slices.Clone(impacts)
	clear(all)
	clear(piece)
	clear(impacts)
	if !sameVehicle(v, full()) || !slices.Equal(l, breeze()) {
		t.Errorf("%v, %v", v, l)
	}
	all, _ = flight.Fly(v, straight, l, 9)
	piece, _ = flight.Piece(v, straight, l, 0, 9)
	impacts, _ = flight.Impacts(v, straight, l)
	if !slices.Equal(all, keptAll) || !slices.Equal(piece, keptPiece) || !slices.Equal(impacts, keptImpacts) {
		t.Errorf("%v, %v, %v", all, piece, impacts)
	}
}

// odd returns a number that is often beyond all limits.
func odd(r *rand.Rand) int {
	return []int{math.MinInt, math.MinInt + 1, -api.MaxPlace, -1, 0, 1, 2, 3000, api.MaxSpeed, api.MaxPlace, api.MaxPlace + 1, math.MaxInt - 1, math.MaxInt, r.Intn(1000), int(r.Uint64())}[r.Intn(15)]
}

func oddSpan(r *rand.Rand) api.Span { return span(odd(r), odd(r)) }

// oddTask returns a task in which some numbers are odd.
func oddTask(r *rand.Rand) task {
	x := randomTask(r)
	p := &x.v.Phases[r.Intn(len(x.v.Phases))]
	b := &x.l[r.Intn(len(x.l))]
	for range r.Intn(3) {
		numbers := []*int{&x.v.Gravity.Lo, &x.v.Gravity.Hi, &p.Ticks, &p.Thrust.Lo, &p.Thrust.Hi, &p.Mass.Lo, &p.Mass.Hi, &p.Drag.Lo, &p.Drag.Hi, &p.Tilt.X.Lo, &p.Tilt.Y.Hi, &p.Tilt.Z.Lo, &x.d.X, &x.d.Y, &x.d.Z, &b.From, &b.To, &b.X.Lo, &b.Y.Hi}
		if len(x.v.Air) > 0 {
			a := &x.v.Air[r.Intn(len(x.v.Air))]
			numbers = append(numbers, &a.From, &a.Dens)
		}
		if len(x.v.Pieces) > 0 {
			q := &x.v.Pieces[r.Intn(len(x.v.Pieces))]
			numbers = append(numbers, &q.At, &q.Mass.Lo, &q.Mass.Hi, &q.Drag.Lo, &q.Drag.Hi, &q.Kick.X.Hi, &q.Kick.Y.Lo, &q.Kick.Z.Hi, &q.Floor)
		}
		*numbers[r.Intn(len(numbers))] = odd(r)
	}
	return x
}

// P2.14: no arguments make a function panic, and with an error all other results are zero.
func TestAnyArguments(t *testing.T) {
	r := rand.New(rand.NewSource(2142))
	for range 5000 {
		x := oddTask(r)
		part, at, e := flight.Check(x.v)
		if (part == 0) != (e == api.OK) || e == api.OK && at != 0 {
			t.Fatalf("Check = %d, %d, %d", part, at, e)
		}
		s := api.FlState{X: oddSpan(r), Y: oddSpan(r), Z: oddSpan(r), VX: oddSpan(r), VY: oddSpan(r), VZ: oddSpan(r)}
		path := []api.FlPoint{{}, {X: odd(r), Y: odd(r), Z: odd(r), VX: odd(r), VY: odd(r), VZ: odd(r)}}
		winds, e1 := flight.Winds(x.l, oddSpan(r))
		air, e2 := flight.Air(x.v, oddSpan(r))
		f, e3 := flight.Force(x.v, x.d, x.l, odd(r), s)
		l, e4 := flight.Fly(x.v, x.d, x.l, odd(r))
		m, e5 := flight.Piece(x.v, x.d, x.l, odd(r), odd(r))
		top, e6 := flight.Top(x.v, x.d, x.l, odd(r))
		n, e7 := flight.Impacts(x.v, x.d, x.l)
		own, e8 := flight.Own(x.v, x.d, x.l, path)
		place, tick, e9 := flight.Down(path, odd(r))
		flight.CheckDir(api.FlDir{X: odd(r), Y: odd(r), Z: odd(r)})
		if e1 != api.OK && winds != (api.Area{}) || e2 != api.OK && air != (api.Span{}) || e3 != api.OK && f != (api.FlForce{}) || e4 != api.OK && len(l) > 0 || e5 != api.OK && len(m) > 0 ||
			e6 != api.OK && top != (api.Span{}) || e7 != api.OK && len(n) > 0 || e8 != api.OK && own != 0 || e9 != api.OK && (place != api.Place{} || tick != 0) {
			t.Fatalf("a result that is not zero with an error, of %v", x)
		}
	}
}
