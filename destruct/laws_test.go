package destruct_test

import (
	"math/rand"
	"slices"
	"testing"

	"hangfire/api"
	"hangfire/destruct"
	"hangfire/flight"
	"hangfire/track"
)

// P6.6
func TestWhatFallsIsInArea(t *testing.T) {
	r := rand.New(rand.NewSource(66))
	count, early, late := 0, 0, 0
	for range 3000 {
		p, b := randomPlan(r, 5000), randomBox(r)
		a, at, e := destruct.Fall(p, b)
		if e != api.OK {
			continue
		}
		for range 10 {
			from := in(r, b)
			n, place := drop(r, from, p.Gravity)
			if !has(at, b.At+n) || !has(a.X, place.X) || !has(a.Y, place.Y) {
				t.Fatalf("Fall of %v = %v, %v, and %v comes down after %d ticks at %v by %v", b, a, at, from, n, place, p)
			}
			count++
			if at.Lo < at.Hi && b.At+n == at.Lo {
				early++
			}
			if at.Lo < at.Hi && b.At+n == at.Hi {
				late++
			}
		}
	}
	if count < 20000 || early < 2000 || late < 1000 {
		t.Errorf("%d come down, %d as early and %d as late as they can", count, early, late)
	}
}

// inner returns a box that is in another one.
func inner(r *rand.Rand, b api.TkBox) api.TkBox {
	for _, s := range spansOf(&b) {
		*s = ordered(within(r, *s), within(r, *s))
	}
	return b
}

// P6.7
func TestBoxInBox(t *testing.T) {
	r := rand.New(rand.NewSource(67))
	count, less := 0, 0
	for range 4000 {
		p, b := randomPlan(r, 5000), randomBox(r)
		small := inner(r, b)
		a, at, e := destruct.Fall(p, b)
		c, ticks, f := destruct.Fall(p, small)
		if e != api.OK {
			continue
		}
		if f != api.OK || !lies(c.X, a.X) || !lies(c.Y, a.Y) || !lies(ticks, at) {
			t.Fatalf("Fall of %v = %v, %v, and of %v = %v, %v, %d by %v", b, a, at, small, c, ticks, f, p)
		}
		count++
		if a != c && at != ticks {
			less++
		}
	}
	if count < 2000 || less < 500 {
		t.Errorf("%d boxes, %d areas are less", count, less)
	}
}

// P6.8: if a flight goes on, it would come down before all lines.
func TestBeforeTheLines(t *testing.T) {
	r := rand.New(rand.NewSource(68))
	on, near, beyond := 0, 0, 0
	for range 4000 {
		x, way := randomTask(r)
		p := randomPlan(r, 50000)
		last := way.end(x) - p.Wait - 1
		now := max(x.From-5+r.Intn(last-x.From+6), 0)
		p = nearLines(r, p, x, now)
		l, e := destruct.Look(p, x, now)
		if e != api.OK {
			t.Fatalf("Look at %d: %d of %v, %v", now, e, p, x)
		}
		for range 5 {
			n, place := drop(r, way.at(x, now+p.Wait+1), p.Gravity)
			switch {
			case l.Why == 0 && !isBefore(p, place):
				t.Fatalf("Look at %d = %v, and it comes down after %d ticks at %v by %v of %v", now, l, n, place, p, x)
			case l.Why == 0:
				on++
			case !isBefore(p, place):
				beyond++
			}
		}
		for i, most := range greatest(p, l.Area) {
			if l.Why == 0 && most > p.Lines[i].Line-10 {
				near++
			}
		}
	}
	if on < 4000 || near < 500 || beyond < 150 {
		t.Errorf("%d go on, %d areas reach to a line, %d would be beyond", on, near, beyond)
	}
}

// P6.8, P6.9: a flight that goes to the east, and up, as fast as it can comes down where the Area ends, so no line can be nearer.
func TestAsFarAsItCan(t *testing.T) {
	r := rand.New(rand.NewSource(682))
	x := lone()
	way := path{{}}
	for n := range 60 {
		at, v := way[n], x.Accel*(n+1)
		way = append(way, [3]int{at[0] + v, at[1], at[2] + v})
	}
	for now := range 50 {
		p := example()
		for p.Wait = range 8 {
			l, e := destruct.Look(p, x, now)
			n, place := drop(r, way.at(x, now+p.Wait+1), p.Gravity)
			if e != api.OK || place.X != l.Area.X.Hi || now+p.Wait+1+n != l.At.Hi {
				t.Fatalf("Look at %d = %v, %d, and it comes down after %d ticks at %v", now, l, e, n, place)
			}
			for line, why := range map[int]int{place.X: 0, place.X - 1: api.DeWhyLine} {
				p.Lines = []api.DeLine{{A: 1, Keep: -offset, Line: line}}
				if l, e = destruct.Look(p, x, now); l.Why != why || e != api.OK {
					t.Fatalf("Look at %d = %v, %d, and it comes down at %v by %v", now, l, e, place, p)
				}
			}
		}
	}
}

// P6.8: if a flight is ended behind the first tick that is looked at, it comes down before all lines.
func TestEndedAheadOfTheLines(t *testing.T) {
	r := rand.New(rand.NewSource(681))
	ended, saved := 0, 0
	for range 1000 {
		x, way := randomTask(r)
		p := randomPlan(r, 50000)
		last := way.end(x) - p.Wait - 1
		first := max(last-50, 0)
		p = nearLines(r, p, x, first+r.Intn(last-first+1))
		d, e := destruct.Decide(p, x, first, last)
		if e != api.OK {
			t.Fatalf("Decide: %d of %v, %v", e, p, x)
		}
		if d.Tick <= first {
			continue
		}
		ended++
		for range 5 {
			if n, place := drop(r, way.at(x, d.Tick+p.Wait), p.Gravity); !isBefore(p, place) {
				t.Fatalf("Decide from %d = %v, and it comes down after %d ticks at %v by %v of %v", first, d, n, place, p, x)
			}
		}
		if _, place := drop(r, way.at(x, last), p.Gravity); !isBefore(p, place) {
			saved++
		}
	}
	if ended < 200 || saved < 50 {
		t.Errorf("%d are ended, %d would be beyond a line", ended, saved)
	}
}

// P6.9
func TestStays(t *testing.T) {
	r := rand.New(rand.NewSource(69))
	count, tight := 0, 0
	for range 2000 {
		x, way := randomTask(r)
		p := randomPlan(r, 50000)
		for i := range p.Lines {
			p.Lines[i].Line = offset
		}
		now := r.Intn(way.end(x) - 1)
		l, e := destruct.Look(p, x, now)
		if e != api.OK || l.Area == (api.Area{}) {
			continue
		}
		place := api.Place{X: within(r, l.Area.X), Y: within(r, l.Area.Y)}
		most := greatest(p, l.Area)
		for i := range p.Lines {
			line := &p.Lines[i]
			here := line.A*place.X + line.B*place.Y
			line.Keep = here + r.Intn(2)*r.Intn(3000)
			line.Line = line.Keep + most[i] - here + r.Intn(2)*r.Intn(3000)
		}
		got, e := destruct.Look(p, x, now)
		if e != api.OK || got != l {
			t.Fatalf("Look at %d = %v, %d of %v, %v", now, got, e, p, x)
		}
		count++
		// Where the corridor ends at this place, the line can be no nearer.
		i := r.Intn(len(p.Lines))
		if p.Lines[i].Line == most[i] && most[i] > p.Lines[i].Keep {
			tight++
			p.Lines[i].Line--
			if got, e = destruct.Look(p, x, now); e != api.OK || got.Why != api.DeWhyLine || got.Line != i {
				t.Fatalf("Look at %d = %v, %d of %v, %v", now, got, e, p, x)
			}
		}
	}
	if count < 1000 || tight < 200 {
		t.Errorf("%d stay, %d would not with a line that is 1 less", count, tight)
	}
}

// P6.10
func TestLaterPlots(t *testing.T) {
	r := rand.New(rand.NewSource(610))
	ended, changed := 0, 0
	for range 600 {
		x, way := randomTask(r)
		p := randomPlan(r, 50000)
		first := max(way.end(x)-60+r.Intn(40), 0)
		last := first + r.Intn(min(60, api.MaxTick-first)+1)
		p = nearLines(r, p, x, first+r.Intn(last-first+1))
		d, e := destruct.Decide(p, x, first, last)
		if e != api.OK {
			t.Fatalf("Decide: %d of %v, %v", e, p, x)
		}
		seen := d.Tick
		if seen < 0 {
			seen = last
		}
		known, _ := track.Known(x, seen)
		y := cloneTask(x)
		y.Plots = nil
		for i, q := range x.Plots {
			if !slices.Contains(known, i) {
				changed++
				q.X, q.Y, q.Z = around(r, far), around(r, far), around(r, far)
			}
			if slices.Contains(known, i) || r.Intn(2) == 0 {
				y.Plots = append(y.Plots, q)
			}
		}
		if got, e := destruct.Decide(p, y, first, last); got != d || e != api.OK {
			t.Fatalf("Decide from %d to %d = %v, and %v, %d with other plots by %v of %v, %v", first, last, d, got, e, p, x, y)
		}
		if d.Tick < 0 {
			continue
		}
		ended++
		for _, end := range []int{d.Tick, last + r.Intn(20), first + api.MaxDeLooks - 1} {
			end = min(end, first+api.MaxDeLooks-1, api.MaxTick)
			if got, e := destruct.Decide(p, x, first, end); got != d || e != api.OK {
				t.Fatalf("Decide from %d to %d = %v, and %v, %d to %d by %v of %v", first, last, d, got, e, end, p, x)
			}
		}
	}
	if ended < 200 || changed < 2000 {
		t.Errorf("%d are ended, %d plots are other ones", ended, changed)
	}
}

// P6.11
func TestMoreRoom(t *testing.T) {
	r := rand.New(rand.NewSource(611))
	before, spared := 0, 0
	for range 2000 {
		x, way := randomTask(r)
		now := r.Intn(way.end(x))
		p := nearLines(r, randomPlan(r, 50000), x, now)
		more := clonePlan(p)
		i := r.Intn(len(p.Lines))
		if len(p.Lines) > 1 && r.Intn(2) == 0 {
			more.Lines = slices.Delete(more.Lines, i, i+1)
		} else {
			more.Lines[i].Line = min(p.Lines[i].Line+1+r.Intn(3000), offset)
		}
		a, e := destruct.Look(p, x, now)
		b, f := destruct.Look(more, x, now)
		if e != api.OK || f != api.OK || a.Why == 0 && b.Why != 0 {
			t.Fatalf("Look at %d = %v, %d, and with more room %v, %d by %v, %v of %v", now, a, e, b, f, p, more, x)
		}
		if a.Why == 0 {
			before++
		} else if b.Why == 0 {
			spared++
		}
	}
	if before < 500 || spared < 50 {
		t.Errorf("%d did not have to be ended, %d do not have to be now", before, spared)
	}
}

// vehicle returns one without air, with a piece, that comes down to the ground.
func vehicle(r *rand.Rand) api.FlVehicle {
	thrust, gravity := 1000+r.Intn(1000), 40+r.Intn(60)
	return api.FlVehicle{
		Name: "dart", Gravity: span(gravity, gravity+r.Intn(3)),
		Phases: []api.FlPhase{{Ticks: 1 + r.Intn(3), Thrust: span(thrust, thrust+r.Intn(20)), Mass: span(8, 8+r.Intn(2)), Tilt: api.FlTilt{X: ordered(around(r, 200), around(r, 200)), Y: ordered(around(r, 200), around(r, 200))}}},
		Pieces: []api.FlPiece{{Name: "tail", At: 1 + r.Intn(12), Mass: only(2), Kick: api.FlTilt{X: ordered(around(r, 30), around(r, 30)), Z: ordered(around(r, 50), around(r, 50))}}},
	}
}

// boxOf returns the box of a state at a tick, with the velocity of the next one.
func boxOf(at int, s, next api.FlState) api.TkBox {
	return api.TkBox{At: at, X: s.X, Y: s.Y, Z: s.Z, VX: next.VX, VY: next.VY, VZ: next.VZ}
}

// P6.12
func TestWithoutAir(t *testing.T) {
	r := rand.New(rand.NewSource(612))
	count := 0
	for range 500 {
		v := vehicle(r)
		p := example()
		p.Gravity = v.Gravity
		up := api.FlDir{Z: api.Unit}
		calm := []api.WnBand{{To: 1}}
		impacts, e := flight.Impacts(v, up, calm)
		if e != api.OK {
			continue
		}
		// The states of the piece, and those of the vehicle behind its phase.
		from := []int{v.Pieces[0].At, v.Phases[0].Ticks}
		piece, e := flight.Piece(v, up, calm, 0, impacts[0].At.Hi-from[0])
		all, f := flight.Fly(v, up, calm, impacts[1].At.Hi)
		if e != api.OK || f != api.OK {
			t.Fatalf("%d, %d of %v", e, f, v)
		}
		for i, states := range [][]api.FlState{piece, all[from[1]:]} {
			for n := range impacts[i].At.Lo - from[i] { // up to the last tick before it comes down
				b := boxOf(from[i]+n, states[n], states[n+1])
				a, at, e := destruct.Fall(p, b)
				if a != impacts[i].Area || at != impacts[i].At || e != api.OK {
					t.Fatalf("%d: Fall of %v = %v, %v, %d, and not %v of %v", i, b, a, at, e, impacts[i], v)
				}
				count++
			}
		}
	}
	if count < 5000 {
		t.Errorf("%d states", count)
	}
}

// P6.13: the arguments are as they were after all calls.
func TestArgumentsStay(t *testing.T) {
	r := rand.New(rand.NewSource(613))
	for range 300 {
		x, way := randomTask(r)
		p, b := randomPlan(r, 50000), randomBox(r)
		now := r.Intn(way.end(x))
		y, q, c := cloneTask(x), clonePlan(p), b
		everyError(p, x)
		taskErrors(p, x, now)
		destruct.Check(p)
		destruct.Fall(p, b)
		for _, a := range []api.Area{{}, area(span(-5, 5), span(7, 9))} {
			destruct.Side(p, a)
			destruct.Keeps(p, a)
			destruct.Sure(p, a)
		}
		destruct.Decide(p, x, now, now+5)
		if !sameTask(x, y) || !samePlan(p, q) || b != c {
			t.Fatalf("%v, %v, %v were %v, %v, %v", x, p, b, y, q, c)
		}
	}
}

// P6.13: who changes a result changes neither the arguments nor a later result.
func TestResultsAreNew(t *testing.T) {
	p := example()
	for range 2 {
		l, e := destruct.Side(p, area(span(600, 670), span(-30, 30)))
		if e != api.OK || !slices.Equal(l, []int{199330, 79970}) {
			t.Errorf("Side = %v, %d", l, e)
		}
		clear(l)
	}
	if !samePlan(p, example()) {
		t.Errorf("%v", p)
	}
}

// oddPlan returns a plan in which some numbers are odd.
func oddPlan(r *rand.Rand) api.DePlan {
	p := randomPlan(r, 50000)
	l := &p.Lines[r.Intn(len(p.Lines))]
	change(r, &l.A, &l.B, &l.Keep, &l.Line, &p.Gravity.Lo, &p.Gravity.Hi, &p.Wait, &p.Blind)
	if r.Intn(20) == 0 {
		p.Lines = nil
	}
	return p
}

// oddTask returns a task in which some numbers are odd.
func oddTask(r *rand.Rand) api.TkTask {
	x, _ := randomTask(r)
	numbers := []*int{&x.From, &x.Speed, &x.Accel}
	if len(x.Plots) > 0 {
		q := &x.Plots[r.Intn(len(x.Plots))]
		numbers = append(numbers, &q.Tracker, &q.Tick, &q.X, &q.Y, &q.Z)
	}
	change(r, numbers...)
	return x
}

// P6.13: no arguments make a function panic, and with an error all other results are zero.
func TestAnyArguments(t *testing.T) {
	r := rand.New(rand.NewSource(6131))
	for range 5000 {
		p, x := oddPlan(r), oddTask(r)
		part, at, e := destruct.Check(p)
		if (part == 0) != (e == api.OK) || part != 1 && at != 0 {
			t.Fatalf("Check = %d, %d, %d", part, at, e)
		}
		b := randomBox(r)
		change(r, &b.At, &b.X.Lo, &b.Y.Hi, &b.Z.Lo, &b.Z.Hi, &b.VX.Lo, &b.VX.Hi, &b.VY.Lo, &b.VZ.Lo, &b.VZ.Hi)
		a := area(span(odd(r), odd(r)), span(odd(r), odd(r)))
		down, ticks, e1 := destruct.Fall(p, b)
		side, e2 := destruct.Side(p, a)
		keeps, e3 := destruct.Keeps(p, a)
		sure, line, e4 := destruct.Sure(p, a)
		used, from, e5 := destruct.Used(p, x, odd(r))
		look, e6 := destruct.Look(p, x, odd(r))
		end, e7 := destruct.Decide(p, x, odd(r), odd(r))
		if e1 != api.OK && (down != api.Area{} || ticks != api.Span{}) || e2 != api.OK && len(side) > 0 || e3 != api.OK && keeps || e4 != api.OK && (sure || line != 0) ||
			e5 != api.OK && (used != api.TkBox{} || from != 0) || e6 != api.OK && look != (api.DeLook{}) || e7 != api.OK && end != (api.DeEnd{}) {
			t.Fatalf("a result that is not zero with an error, of %v, %v, %v, %v", p, x, b, a)
		}
	}
}
