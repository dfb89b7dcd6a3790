package pad_test

import (
	"math/rand"
	"slices"
	"testing"

	"hangfire/api"
	"hangfire/pad"
)

// start returns a random pad, and a state of it from which acts begin: the first one, or any one that is sound.
func start(r *rand.Rand) (api.PdPad, api.PdState) {
	p := randomPad(r)
	if r.Intn(4) == 0 {
		s, _ := pad.Start(p)
		return p, s
	}
	return p, anySound(r, p)
}

// P7.9
func TestNoDanger(t *testing.T) {
	r := rand.New(rand.NewSource(79))
	near, armed := 0, 0
	for range 2500 {
		p, s := start(r)
		_, states := walk(r, p, s, r.Intn(61))
		for _, s := range states {
			l, e := pad.Danger(p, s)
			if f := pad.CheckState(p, s); len(l) > 0 || e != api.OK || f != api.OK {
				t.Fatalf("%v: Danger = %v, %d, CheckState = %d in %v", s, l, e, f, p)
			}
			if slices.ContainsFunc(s.Zones, func(zone int) bool { return len(nearsOf(p, s, zone)) > 0 }) {
				near++
			}
			if slices.Contains(s.Squibs, api.PdArmed) {
				armed++
			}
		}
	}
	if near < 5000 || armed < 2000 {
		t.Errorf("somebody is near in %d states, and a squib is armed in %d", near, armed)
	}
}

// P7.10
func TestKeysInhibit(t *testing.T) {
	r := rand.New(rand.NewSource(710))
	count, moved := 0, 0
	for range 1500 {
		p, s := start(r)
		l, states := walk(r, p, s, 60)
		for n, s := range states {
			for i, zone := range s.Zones {
				for _, squib := range nearsOf(p, s, zone) {
					if lacksOf(p, s, i, zone) || s.Squibs[squib] == api.PdArmed {
						t.Fatalf("%d is near %d without a key in %v in %v", i, squib, s, p)
					}
					nobodyArms(t, p, s, squib)
					count++
				}
			}
			if n > 0 {
				moved += keysMove(t, states[n-1], s, l[n-1])
			}
		}
	}
	if count < 5000 || moved < 5000 {
		t.Errorf("somebody is near %d times, and %d keys move", count, moved)
	}
}

// nobodyArms checks that a squib is armed by nobody, whenever they try.
func nobodyArms(t *testing.T, p api.PdPad, s api.PdState, squib int) {
	t.Helper()
	for i := range p.People {
		for _, at := range []int{s.Now, api.MaxTick} {
			if _, e := pad.Do(p, s, act(at, api.PdArm, i, squib)); e == api.OK {
				t.Fatalf("%d arms %d in %v in %v", i, squib, s, p)
			}
		}
	}
}

// keysMove checks that a key moves only by an act of the one who holds it, or from the panel, and returns how many do.
func keysMove(t *testing.T, before, after api.PdState, a api.PdAct) int {
	t.Helper()
	n := 0
	for key, who := range before.Holder {
		if after.Holder[key] == who {
			continue
		}
		n++
		mine := who == a.Who && (a.Kind == api.PdPut || a.Kind == api.PdGive) || who == -1 && a.Kind == api.PdTake && after.Holder[key] == a.Who
		if a.What != key || !mine {
			t.Fatalf("the key %d moves by %v in %v", key, a, before)
		}
	}
	return n
}

// P7.11
func TestLaterActs(t *testing.T) {
	r := rand.New(rand.NewSource(711))
	for range 2000 {
		p, s := start(r)
		l, states := walk(r, p, s, r.Intn(61))
		_, why, e := pad.Play(p, s, l)
		if e != api.OK {
			t.Fatalf("Play = %d", e)
		}
		n := r.Intn(len(l) + 1)
		after, some, e := pad.Play(p, s, l[:n])
		if !slices.Equal(some, why[:n]) || !sameState(after, states[n]) || e != api.OK {
			t.Fatalf("Play of the first %d of %v = %v, %d, and not %v", n, l, some, e, why[:n])
		}
		var accepted []api.PdAct
		for i, a := range l {
			if why[i] == api.OK {
				accepted = append(accepted, a)
			}
		}
		after, some, e = pad.Play(p, s, accepted)
		if !sameState(after, states[len(l)]) || !slices.Equal(some, make([]api.Errno, len(accepted))) || e != api.OK {
			t.Fatalf("Play of those of %v that are not refused = %v, %v, %d", l, after, some, e)
		}
	}
}

// P7.12
func TestToClear(t *testing.T) {
	r := rand.New(rand.NewSource(712))
	count := map[bool]int{}
	for range 12000 {
		p, s := start(r)
		for squib := range p.Squibs {
			owed, e := pad.Owed(p, s, squib)
			if e != api.OK {
				t.Fatalf("Owed = %d", e)
			}
			for i, q := range p.People {
				at := s.Now + r.Intn(10)
				may := len(owed) == 0 && s.Squibs[squib] == api.PdSafe && s.Zones[i] == p.Panel && q.Grade >= p.Squibs[squib].Grade && !s.Storm && s.Siren >= 0 && at >= s.Siren+p.Wait
				after, e := pad.Do(p, s, act(at, api.PdArm, i, squib))
				if (e == api.OK) != may || may && after.Squibs[squib] != api.PdArmed {
					t.Fatalf("%d arms %d at %d in %v in %v: %v, %d", i, squib, at, s, p, after, e)
				}
				count[may]++
			}
		}
	}
	if count[true] < 200 || count[false] < 10000 {
		t.Errorf("%v", count)
	}
}

// P7.13
func TestStorms(t *testing.T) {
	r := rand.New(rand.NewSource(713))
	storms, out := 0, 0
	for range 2500 {
		p, s := start(r)
		l, states := walk(r, p, s, 60)
		for i, a := range l {
			before, after := states[i], states[i+1]
			accepted := !sameState(before, after)
			if begins := accepted && a.Kind == api.PdThunder; begins != (before.Storm != after.Storm) {
				t.Fatalf("%v makes %v of %v", a, after, before)
			}
			if !before.Storm || !after.Storm {
				continue
			}
			storms++
			for who, zone := range after.Zones {
				if zone == before.Zones[who] {
					continue
				}
				out++
				if len(nearsOf(p, after, zone)) > 0 {
					t.Fatalf("%d comes near by %v in %v in %v", who, a, before, p)
				}
			}
			if slices.Contains(after.Squibs, api.PdArmed) {
				t.Fatalf("%v makes %v of %v", a, after, before)
			}
		}
	}
	if storms < 5000 || out < 500 {
		t.Errorf("%d acts in storms, %d people move", storms, out)
	}
}

// P7.14
func TestDistances(t *testing.T) {
	r := rand.New(rand.NewSource(714))
	lost, gained, sounds := 0, 0, 0
	for range 8000 {
		p, s := start(r)
		if len(p.Squibs) == 0 {
			continue
		}
		less, wide := clonePad(p), clonePad(p)
		q := &less.Squibs[r.Intn(len(p.Squibs))]
		q.Clear = r.Intn(q.Clear + 1)
		a := &wide.Zones[r.Intn(len(p.Zones))].Area
		a.X, a.Y = span(a.X.Lo-r.Intn(5), a.X.Hi+r.Intn(5)), span(a.Y.Lo-r.Intn(5), a.Y.Hi+r.Intn(5))
		for zone := range p.Zones {
			for squib := range p.Squibs {
				near, e := pad.Near(p, zone, squib)
				closer, f := pad.Near(less, zone, squib)
				wider, g := pad.Near(wide, zone, squib)
				if closer && !near || near && !wider || e != api.OK || f != api.OK || g != api.OK {
					t.Fatalf("Near of %d and %d: %t, %t in %v, %t in %v", zone, squib, near, closer, less, wider, wide)
				}
				if near && !closer {
					lost++
				}
				if wider && !near {
					gained++
				}
			}
		}
		if e := pad.CheckState(less, s); e != api.OK {
			t.Fatalf("%v is not sound in %v, but in %v", s, less, p)
		}
		if first, _ := pad.Start(p); !sameState(s, first) {
			sounds++
		}
	}
	if lost < 500 || gained < 500 || sounds < 2000 {
		t.Errorf("%d, %d, %d", lost, gained, sounds)
	}
}

// P7.15: the arguments are as they were after all calls.
func TestArgumentsStay(t *testing.T) {
	r := rand.New(rand.NewSource(715))
	for range 500 {
		p, s := start(r)
		q, c := clonePad(p), cloneState(s)
		l, _ := walk(r, p, s, 60)
		acts := slices.Clone(l)
		everyError(p)
		stateErrors(p, s)
		pad.Check(p)
		pad.Danger(p, s)
		pad.Play(p, s, l)
		for i := range p.Squibs {
			pad.Owed(p, s, i)
			pad.Near(p, 0, i)
		}
		for i := range p.Zones {
			pad.May(p, s, i)
		}
		for _, a := range l {
			pad.Do(p, s, a)
		}
		if !samePad(p, q) || !sameState(s, c) || !slices.Equal(l, acts) {
			t.Fatalf("%v, %v, %v were %v, %v, %v", p, s, l, q, c, acts)
		}
	}
}

// P7.15: who changes a result changes neither the arguments nor a later result.
func TestResultsAreNew(t *testing.T) {
	p, s := example(), holding(in(0, 0, 0), ann, bob, eve)
	spoil := func(s api.PdState) { clear(s.Zones); clear(s.Holder); clear(s.Squibs) }
	for range 2 {
		one, _ := pad.Start(p)
		two, _ := pad.Do(p, s, act(5, api.PdThunder, ann, 1))
		three, _, _ := pad.Play(p, s, nil)
		four, _, _ := pad.Play(p, s, []api.PdAct{act(5, api.PdThunder, ann, 0)})
		owed, _ := pad.Owed(p, s, motor)
		if !sameState(one, first()) || !slices.Equal(two.Holder, []int{ann, bob, eve}) || !sameState(three, s) || !sameState(four, s) || !slices.Equal(owed, []int{red, blue}) {
			t.Errorf("%v, %v, %v, %v, %v", one, two, three, four, owed)
		}
		for _, s := range []api.PdState{one, two, three, four} {
			spoil(s)
		}
		clear(owed)
	}
	if !samePad(p, example()) || !sameState(s, holding(in(0, 0, 0), ann, bob, eve)) {
		t.Errorf("%v, %v", p, s)
	}
}

// oddPad returns a pad in which some numbers are odd.
func oddPad(r *rand.Rand) api.PdPad {
	p := randomPad(r)
	z := &p.Zones[r.Intn(len(p.Zones))]
	change(r, &z.Area.X.Lo, &z.Area.X.Hi, &z.Area.Y.Lo, &z.Area.Y.Hi, &z.Grade, &z.Room, &p.Panel, &p.Wait)
	d := &p.Doors[r.Intn(len(p.Doors))]
	change(r, &d.A, &d.B)
	if len(p.Squibs) > 0 {
		q := &p.Squibs[r.Intn(len(p.Squibs))]
		change(r, &q.At.X, &q.At.Y, &q.Clear, &q.Grade, &q.Keys[0])
	}
	return p
}

// oddState returns a state in which some numbers are odd, or of which something is missing.
func oddState(r *rand.Rand, p api.PdPad) api.PdState {
	s := anyState(r, p)
	numbers := []*int{&s.Now, &s.Siren}
	for _, l := range [][]int{s.Zones, s.Holder, s.Squibs} {
		if len(l) > 0 {
			numbers = append(numbers, &l[r.Intn(len(l))])
		}
	}
	change(r, numbers...)
	if r.Intn(20) == 0 {
		s.Holder = nil
	}
	return s
}

// P7.15: no arguments make a function panic, and with an error all other results are zero.
func TestAnyArguments(t *testing.T) {
	r := rand.New(rand.NewSource(7151))
	sound := 0
	for range 20000 {
		p := oddPad(r)
		s := oddState(r, p)
		if r.Intn(2) == 0 {
			p, s = start(r)
		}
		if part, at, e := pad.Check(p); (part == 0) != (e == api.OK) || (part < 2 || part > 6) && at != 0 {
			t.Fatalf("Check = %d, %d, %d", part, at, e)
		}
		if pad.CheckState(p, s) == api.OK {
			sound++
		}
		var l []api.PdAct
		for range 1 + r.Intn(3) {
			l = append(l, api.PdAct{At: s.Now, Kind: r.Intn(11), Who: r.Intn(3), What: r.Intn(5) - 1, With: r.Intn(4) - 1})
			a := &l[len(l)-1]
			change(r, &a.At, &a.Kind, &a.Who, &a.What, &a.With)
		}
		near, e1 := pad.Near(p, odd(r), odd(r))
		begin, e2 := pad.Start(p)
		after, e3 := pad.Do(p, s, l[0])
		last, why, e4 := pad.Play(p, s, l)
		danger, e5 := pad.Danger(p, s)
		owed, e6 := pad.Owed(p, s, odd(r))
		may, e7 := pad.May(p, s, odd(r))
		if e1 != api.OK && near || e2 != api.OK && !isZero(begin) || e3 != api.OK && !isZero(after) || e4 != api.OK && (!isZero(last) || len(why) > 0) ||
			e5 != api.OK && len(danger) > 0 || e6 != api.OK && len(owed) > 0 || e7 != api.OK && len(may) > 0 {
			t.Fatalf("a result that is not zero with an error, of %v, %v, %v", p, s, l)
		}
	}
	if sound < 5000 {
		t.Errorf("%d states are sound", sound)
	}
}
