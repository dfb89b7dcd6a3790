package count_test

import (
	"cmp"
	"math/rand"
	"slices"
	"testing"

	"hangfire/api"
	"hangfire/count"
	"hangfire/pad"
)

// P8.7
func TestNoDanger(t *testing.T) {
	r := rand.New(rand.NewSource(87))
	near, armed := 0, 0
	for range 5000 {
		p, log, _ := day(r)
		if r.Intn(2) == 0 {
			p, log = crewed(r)
		}
		n := r.Intn(len(log) + 1)
		s, _, e := count.Play(p, log[:n])
		l, f := pad.Danger(p.Pad, s.Pad)
		if g := pad.CheckState(p.Pad, s.Pad); len(l) > 0 || e != api.OK || f != api.OK || g != api.OK {
			t.Fatalf("%v: Danger = %v, %d, %d, CheckState = %d in %v", s, l, e, f, g, p)
		}
		for _, zone := range s.Pad.Zones {
			if is := zone == rail && len(p.Pad.Squibs) > 0; is {
				near++
			}
		}
		if slices.Contains(s.Pad.Squibs, api.PdArmed) {
			armed++
		}
	}
	if near < 300 || armed < 100 {
		t.Errorf("somebody is near %d times, and a squib is armed in %d states", near, armed)
	}
}

// crewed returns a plan with one or two squibs, and a log in which two people bring all keys to the rail at first.
func crewed(r *rand.Rand) (api.CtPlan, []api.CtEvent) {
	p := randomPlan(r)
	for i := range p.Steps {
		p.Steps[i].Acts = nil
	}
	p.Pad.Squibs = site().Squibs[:1+r.Intn(2)]
	p.Pad.People[bob].Grade = 5
	s, _ := count.Start(p)
	log := people(move(0, ann, bunker, bob), act(0, api.PdSound, ann, 1), act(0, api.PdTake, ann, red), act(0, api.PdTake, bob, blue), move(0, eve, bunker, -1))
	if len(p.Pad.Squibs) == 2 {
		p.Pad.Squibs[chute].Keys = []int{red, blue}
	}
	log = append(log, people(move(1, ann, road, bob), move(2, ann, rail, bob))...)
	for _, v := range log {
		s, _ = doOf(p, s, v)
	}
	more, _ := walk(r, p, s, r.Intn(50))
	return p, append(log, more...)
}

// P8.8
func TestLaterEvents(t *testing.T) {
	r := rand.New(rand.NewSource(88))
	refused := 0
	for range 3000 {
		p, log, states := day(r)
		after, why, e := count.Play(p, log)
		if e != api.OK {
			t.Fatalf("Play = %d", e)
		}
		n := r.Intn(len(log) + 1)
		s, some, e := count.Play(p, log[:n])
		if !slices.Equal(some, why[:n]) || !sameState(s, states[n]) || e != api.OK {
			t.Fatalf("Play of the first %d of %v = %v, %d, and not %v", n, log, some, e, why[:n])
		}
		var rest []api.CtEvent
		for i, v := range log {
			if why[i] == api.OK {
				rest = append(rest, v)
			} else {
				refused++
			}
		}
		s, some, e = count.Play(p, rest)
		if !sameState(s, after) || !slices.Equal(some, accepted(len(rest))) || e != api.OK {
			t.Fatalf("Play of those of %v that are not refused = %v, %v, %d", log, s, some, e)
		}
	}
	if refused < 10000 {
		t.Errorf("%d events are refused", refused)
	}
}

// hurry returns events that go on from a state, at a tick or later: nearly always one that brings the launch nearer as soon as it can, otherwise any one.
func hurry(r *rand.Rand, p api.CtPlan, s api.CtState, tick int, recycles bool) (log []api.CtEvent) {
	for n := 0; len(log) < 40 && n < 80 && s.Ended[len(p.Steps)-1] < 0; n++ {
		v := guess(r, p, s)
		if r.Intn(5) > 0 {
			v = forward(p, s, max(tick, s.Now))
		}
		if v.At < tick || v.Kind == api.CtRecycle && !recycles {
			continue
		}
		if next, why := doOf(p, s, v); why == api.OK {
			s, log = next, append(log, v)
		}
	}
	return log
}

// forward returns the first event, from a tick on, that brings the launch nearer.
func forward(p api.CtPlan, s api.CtState, tick int) api.CtEvent {
	l := []api.CtEvent{event(tick, api.CtResume, 0)}
	for i := range p.Stations {
		l = append(l, goes(tick, i))
	}
	for i, x := range p.Steps {
		from := tick
		if i == len(p.Steps)-1 {
			from = max(tick, p.Window.Lo-x.Least)
		}
		l = append(l, begin(from, i))
		if s.Begun[i] >= 0 {
			l = append(l, end(max(tick, s.Begun[i]+x.Least), i))
		}
	}
	slices.SortStableFunc(l, func(a, b api.CtEvent) int { return cmp.Compare(a.At, b.At) })
	for _, v := range l {
		if _, why := doOf(p, s, v); why == api.OK {
			return v
		}
	}
	return l[0]
}

// P8.9
func TestNothingIsEarlier(t *testing.T) {
	r := rand.New(rand.NewSource(89))
	just, later, again := 0, 0, 0
	for range 5000 {
		p, log, states := day(r)
		s, last := states[len(log)], len(p.Steps)-1
		if s.Ended[last] >= 0 {
			continue
		}
		tick, recycles := s.Now+r.Intn(10), r.Intn(3) == 0
		earliest, e := count.Earliest(p, log, tick)
		more := hurry(r, p, s, tick, recycles)
		recycled := slices.ContainsFunc(more, func(v api.CtEvent) bool { return v.Kind == api.CtRecycle })
		log = append(log, more...)
		log = log[:min(len(log), 100)]
		after, _, f := count.Play(p, log)
		if f != api.OK {
			t.Fatalf("Play = %d", f)
		}
		if at := after.Ended[last]; at >= 0 {
			if e == api.OK && at < earliest || e != api.OK && !recycled {
				t.Fatalf("the launch is at %d, Earliest at %d was %d, %d after %v by %v", at, tick, earliest, e, log, p)
			}
			switch {
			case e != api.OK:
				again++
			case at == earliest:
				just++
			default:
				later++
			}
		}
	}
	if just < 200 || later < 30 || again < 4 {
		t.Errorf("%d launches are just as early, %d are later, %d after a recycle", just, later, again)
	}
}

// P8.10
func TestOrder(t *testing.T) {
	r := rand.New(rand.NewSource(810))
	done, launched := 0, 0
	for range 5000 {
		p, log, states := day(r)
		log = append(log, hurry(r, p, states[len(log)], 0, true)...)
		log = log[:min(len(log), 100)]
		s, _, e := count.Play(p, log)
		if e != api.OK {
			t.Fatalf("Play = %d", e)
		}
		for i, x := range p.Steps {
			if s.Ended[i] >= 0 {
				done++
				if lasted := s.Ended[i] - s.Begun[i]; s.Begun[i] < 0 || lasted < x.Least || lasted > x.Most || s.Ended[i] > s.Now {
					t.Fatalf("%v has lasted from %d to %d by %v", x, s.Begun[i], s.Ended[i], log)
				}
			}
			for _, need := range x.Need {
				if s.Begun[i] >= 0 && (s.Ended[need] < 0 || s.Ended[need] > s.Begun[i]) {
					t.Fatalf("%v has begun at %d, and %d ended at %d by %v", x, s.Begun[i], need, s.Ended[need], log)
				}
			}
		}
		if at := s.Ended[len(p.Steps)-1]; at >= 0 {
			launched++
			if at < p.Window.Lo || at > p.Window.Hi {
				t.Fatalf("the launch is at %d by %v", at, log)
			}
		}
	}
	if done < 3000 || launched < 300 {
		t.Errorf("%d steps are done, %d launches", done, launched)
	}
}

// P8.11
func TestAsEarlyAsPossible(t *testing.T) {
	r := rand.New(rand.NewSource(811))
	windows, ways := 0, 0
	for range 5000 {
		p := bare(r)
		last := len(p.Steps) - 1
		earliest, e := count.Earliest(p, nil, 0)
		ends := make([]int, len(p.Steps))
		var log []api.CtEvent
		for i, x := range p.Steps {
			from := 0
			for _, need := range x.Need {
				from = max(from, ends[need])
			}
			if i == last {
				from = max(from, p.Window.Lo-x.Least)
			}
			ends[i] = from + x.Least
			log = append(log, begin(from, i), end(ends[i], i))
		}
		possible := ends[last] <= p.Window.Hi
		if (e == api.OK) != possible || possible && earliest != ends[last] {
			t.Fatalf("Earliest of %v = %d, %d, and not %d", p, earliest, e, ends[last])
		}
		if !possible {
			continue
		}
		// Of one and the same tick steps keep their order, so that those that are needed come first. Those that are behind the launch in time are left out.
		log = slices.DeleteFunc(log, func(v api.CtEvent) bool { return v.What != last && v.At > ends[last] })
		slices.SortStableFunc(log, func(a, b api.CtEvent) int { return cmp.Compare(a.At, b.At) })
		s, why, e := count.Play(p, log)
		if s.Ended[last] != earliest || !slices.Equal(why, accepted(len(log))) || e != api.OK {
			t.Fatalf("Play of %v by %v = %v, %v, %d", log, p, s, why, e)
		}
		if earliest == p.Window.Lo {
			windows++
		} else {
			ways++
		}
	}
	if windows < 1000 || ways < 300 {
		t.Errorf("%d, %d", windows, ways)
	}
}

// P8.12
func TestBatteriesLast(t *testing.T) {
	r := rand.New(rand.NewSource(812))
	same, empty := 0, 0
	for range 700 {
		p, log, states := day(r)
		before := make([]int, len(p.Batteries))
		for n := range len(log) + 1 {
			s, _, e := count.Play(p, log[:n])
			lasts, f := count.Lasts(p, log[:n])
			if e != api.OK || f != api.OK {
				t.Fatalf("Play = %d, Lasts = %d", e, f)
			}
			for i, b := range p.Batteries {
				if s.Left[i] < 0 || s.Left[i] > b.Charge || s.On[i] != (lasts[i] >= 0) || s.On[i] && (s.Left[i] == 0) != (lasts[i] == s.Now) {
					t.Fatalf("%v of %v, and it lasts until %d in %v", s.Left[i], b, lasts[i], s)
				}
				if n > 0 && s.On[i] && states[n-1].On[i] {
					if s.Left[i] > 0 && lasts[i] != before[i] || s.Left[i] == 0 && before[i] > s.Now {
						t.Fatalf("%v lasts until %d, and before %v until %d", b, lasts[i], log[n-1], before[i])
					}
					if same++; s.Left[i] == 0 {
						empty++
					}
				}
			}
			before = lasts
		}
	}
	if same < 2000 || empty < 200 {
		t.Errorf("%d, %d", same, empty)
	}
}

// P8.13
func TestLateAndPath(t *testing.T) {
	r := rand.New(rand.NewSource(813))
	late, never, paths := 0, 0, 0
	for range 1500 {
		p, log, states := day(r)
		s := states[len(log)]
		if s.Ended[len(p.Steps)-1] < 0 {
			until, e := count.Late(p, log)
			if e != api.OK {
				t.Fatalf("Late = %d", e)
			}
			before := 0
			for tick := s.Now; tick <= max(s.Now, until, p.Window.Hi)+2; tick++ {
				at, e := count.Earliest(p, log, tick)
				if (e == api.OK) != (tick <= until) || e == api.OK && at < before {
					t.Fatalf("Late is %d, Earliest at %d is %d, %d, and before it %d by %v after %v", until, tick, at, e, before, p, log)
				}
				before = at
			}
			if until >= 0 {
				late++
			} else {
				never++
			}
		}
		path, e := count.Path(p)
		sum := 0
		for _, i := range path {
			sum += p.Steps[i].Least
		}
		p.Window.Hi = api.MaxTick
		at, f := count.Earliest(p, nil, 0)
		if e != api.OK || f != api.OK || at != max(sum, p.Window.Lo) {
			t.Fatalf("Path of %v = %v, %d, Earliest is %d, %d", p, path, e, at, f)
		}
		if sum > p.Window.Lo {
			paths++
		}
	}
	if late < 300 || never < 300 || paths < 200 {
		t.Errorf("%d, %d, %d", late, never, paths)
	}
}

// everyCall calls all functions.
func everyCall(p api.CtPlan, log []api.CtEvent) {
	count.Check(p)
	everyError(p, log)
	for _, tick := range []int{0, 50, 100, api.MaxTick} {
		count.Ready(p, log, tick)
		count.Earliest(p, log, tick)
	}
}

// P8.14: the arguments are as they were after all calls.
func TestArgumentsStay(t *testing.T) {
	r := rand.New(rand.NewSource(814))
	for range 1000 {
		p, log, _ := day(r)
		q, l := clonePlan(p), slices.Clone(log)
		everyCall(p, log)
		if !samePlan(p, q) || !slices.Equal(log, l) {
			t.Fatalf("%v, %v were %v, %v", p, log, q, l)
		}
	}
}

// P8.14: who changes a result changes neither the arguments nor a later result, and no two lists of a result share memory.
func TestResultsAreNew(t *testing.T) {
	p, log := example(), logL()
	spoil := func(s api.CtState) {
		for _, l := range [][]int{s.Begun, s.Ended, s.Left, s.Pad.Zones, s.Pad.Holder, s.Pad.Squibs} {
			for i := range l {
				l[i] = 77
			}
		}
		for i := range s.Go {
			s.Go[i] = true
		}
		for i := range s.On {
			s.On[i] = true
		}
	}
	first := api.PdState{Zones: []int{-1, -1, -1}, Holder: []int{-1, -1, -1}, Squibs: []int{0, 0}, Siren: -1}
	for range 2 {
		one, _ := count.Start(p)
		two, why, _ := count.Play(p, nil)
		three, reasons, _ := count.Play(p, log)
		ready, _ := count.Ready(p, nil, 0)
		lasts, _ := count.Lasts(p, nil)
		path, _ := count.Path(p)
		if !sameState(one, two) || !samePadState(one.Pad, first) || !samePadState(three.Pad, first) || len(why) > 0 || !slices.Equal(reasons, reasonsOfL()) ||
			!slices.Equal(three.Ended, []int{100, 120, 170, 190, 200}) || !slices.Equal(one.Ended, []int{-1, -1, -1, -1, -1}) || !slices.Equal(one.Left, []int{1000}) ||
			!slices.Equal(ready, []int{fill}) || !slices.Equal(lasts, []int{-1}) || !slices.Equal(path, []int{fill, check, poll, launch}) {
			t.Errorf("%v, %v, %v, %v, %v, %v, %v", one, two, three, reasons, ready, lasts, path)
		}
		one.Begun[0] = 5
		if one.Ended[0] != -1 {
			t.Errorf("Begun and Ended share memory")
		}
		for _, s := range []api.CtState{one, two, three} {
			spoil(s)
		}
		clear(reasons)
		for _, l := range [][]int{ready, lasts, path} {
			clear(l)
		}
	}
	if !samePlan(p, example()) || !slices.Equal(log, logL()) {
		t.Errorf("%v, %v", p, log)
	}
}

// oddPlan returns a plan in which some numbers are odd.
func oddPlan(r *rand.Rand) api.CtPlan {
	p := randomPlan(r)
	x := &p.Steps[r.Intn(len(p.Steps))]
	numbers := []*int{&p.Window.Lo, &p.Window.Hi, &x.Least, &x.Most, &p.Pad.Wait, &p.Pad.Panel, &p.Pad.Zones[0].Room}
	for _, l := range [][]int{x.Need, x.On, x.Use, x.Off, p.Points} {
		if len(l) > 0 {
			numbers = append(numbers, &l[r.Intn(len(l))])
		}
	}
	if len(x.Acts) > 0 {
		a := &x.Acts[0]
		numbers = append(numbers, &a.At, &a.Kind, &a.Who, &a.What, &a.With)
	}
	if len(p.Batteries) > 0 {
		numbers = append(numbers, &p.Batteries[0].Charge, &p.Batteries[0].Rate)
	}
	change(r, numbers...)
	return p
}

// P8.14: no arguments make a function panic, and with an error all other results are zero.
func TestAnyArguments(t *testing.T) {
	r := rand.New(rand.NewSource(8141))
	fine := 0
	for range 30000 {
		p := oddPlan(r)
		var log []api.CtEvent
		for range r.Intn(4) {
			v := api.CtEvent{At: r.Intn(30), Kind: r.Intn(11), What: r.Intn(3)}
			if v.Kind == api.CtPerson {
				v.Act = api.PdAct{At: v.At, Kind: r.Intn(11), Who: r.Intn(3), What: r.Intn(3), With: r.Intn(4) - 1}
			}
			if r.Intn(3) == 0 {
				change(r, &v.At, &v.Kind, &v.What, &v.Act.At, &v.Act.Kind, &v.Act.Who, &v.Act.What, &v.Act.With)
			}
			log = append(log, v)
		}
		if part, at, e := count.Check(p); (part == 0) != (e == api.OK) || (part < 3 || part > 6) && at != 0 {
			t.Fatalf("Check = %d, %d, %d", part, at, e)
		}
		first, e1 := count.Start(p)
		after, why, e2 := count.Play(p, log)
		ready, e3 := count.Ready(p, log, odd(r))
		at, e4 := count.Earliest(p, log, odd(r))
		late, e5 := count.Late(p, log)
		lasts, e6 := count.Lasts(p, log)
		path, e7 := count.Path(p)
		if e1 != api.OK && !isZero(first) || e2 != api.OK && (!isZero(after) || len(why) > 0) || e3 != api.OK && len(ready) > 0 || e4 != api.OK && at != 0 ||
			e5 != api.OK && late != 0 || e6 != api.OK && len(lasts) > 0 || e7 != api.OK && len(path) > 0 {
			t.Fatalf("a result that is not zero with an error, of %v, %v", p, log)
		}
		if e2 == api.OK {
			fine++
		}
	}
	if fine < 3000 {
		t.Errorf("%d logs have no error", fine)
	}
}
