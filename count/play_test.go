package count_test

import (
	"math"
	"slices"
	"testing"

	"hangfire/api"
	"hangfire/count"
)

// P8.2, P8.5: the examples of the chapter.
func TestExamples(t *testing.T) {
	p, log := example(), logL()
	why := []api.Errno{
		api.OK, api.CtErrLength, api.OK, api.CtErrBattery, api.OK, api.OK, api.OK, api.OK, api.CtErrPoll, api.OK,
		api.OK, api.OK, api.OK, api.OK, api.CtErrWindow, api.OK,
	}
	s := play(t, p, log, why...)
	first, _ := count.Start(p)
	want := api.CtState{Now: 200, Pad: first.Pad, Begun: []int{0, 100, 110, 185, 190}, Ended: []int{100, 120, 170, 190, 200}, Go: []bool{true, true}, Left: []int{800}, On: []bool{false}}
	if !sameState(s, want) {
		t.Errorf("%v and not %v", s, want)
	}
	for _, n := range []int{5, 13} {
		if l, e := count.Lasts(p, log[:n]); !slices.Equal(l, []int{600}) || e != api.OK {
			t.Errorf("Lasts after %d = %v, %d", n, l, e)
		}
	}
	log = and(log[:13], event(191, api.CtNoGo, safety), begin(192, launch), event(195, api.CtRecycle, 0))
	s = play(t, p, log, append(slices.Clone(why[:13]), api.OK, api.CtErrHeld, api.OK)...)
	want = api.CtState{Now: 195, Pad: first.Pad, Begun: []int{0, -1, -1, -1, -1}, Ended: []int{100, -1, -1, -1, -1}, Held: true, Go: []bool{false, false}, Left: []int{810}, On: []bool{false}}
	if !sameState(s, want) {
		t.Errorf("%v and not %v", s, want)
	}
}

// P8.2: an event that is refused changes nothing, not even the tick or a charge.
func TestPlayRefused(t *testing.T) {
	p, log := example(), logL()[:5]
	s := play(t, p, log, api.OK, api.CtErrLength, api.OK, api.CtErrBattery, api.OK)
	first, _ := count.Start(p)
	want := api.CtState{Now: 100, Pad: first.Pad, Begun: []int{0, 100, -1, -1, -1}, Ended: []int{100, -1, -1, -1, -1}, Go: []bool{false, false}, Left: []int{1000}, On: []bool{true}}
	if !sameState(s, want) {
		t.Errorf("%v and not %v", s, want)
	}
	refused := []api.CtEvent{begin(99, check), begin(150, fill), end(150, check), event(150, api.CtResume, 0), event(150, api.CtNoGo, house), event(150, api.CtRecycle, 1), event(150, api.CtCharge, battery), person(act(150, api.PdTake, ann, red)), begin(150, launch)}
	s = play(t, p, and(log, refused...), api.OK, api.CtErrLength, api.OK, api.CtErrBattery, api.OK,
		api.CtErrTime, api.CtErrState, api.CtErrState, api.CtErrState, api.CtErrState, api.CtErrState, api.CtErrState, api.PdErrFar, api.CtErrNeed)
	if !sameState(s, want) {
		t.Errorf("%v and not %v", s, want)
	}
	for _, log := range [][]api.CtEvent{nil, {}} {
		if s := play(t, p, log); !sameState(s, first) {
			t.Errorf("%v and not %v", s, first)
		}
	}
}

// P8.2: how many events there may be, and events with an error.
func TestPlayErrors(t *testing.T) {
	p := example()
	resumes := func(n int) []api.CtEvent { return slices.Repeat([]api.CtEvent{event(3, api.CtResume, 0)}, n) }
	first, _ := count.Start(p)
	if s := play(t, p, resumes(100), slices.Repeat([]api.Errno{api.CtErrState}, 100)...); !sameState(s, first) {
		t.Errorf("%v and not %v", s, first)
	}
	bad := func(log []api.CtEvent, at int, v api.CtEvent) []api.CtEvent { log[at] = v; return log }
	for i, x := range []struct {
		log []api.CtEvent
		e   api.Errno
	}{
		{resumes(101), api.ErrLong}, {bad(resumes(101), 0, event(-1, 0, 0)), api.ErrLong},
		{bad(resumes(100), 99, event(-1, 0, 0)), api.ErrRange}, {bad(resumes(100), 99, event(0, 0, 0)), api.ErrArg},
		// The first event with an error decides, whichever error it is.
		{bad(bad(resumes(3), 1, begin(0, 5)), 2, event(-1, 0, 0)), api.ErrNone}, {bad(bad(resumes(3), 1, event(0, 10, 0)), 2, begin(0, 5)), api.ErrArg},
		// One that would be refused does, too.
		{and(logL(), begin(0, 5)), api.ErrNone}, {[]api.CtEvent{begin(10, fill), event(5, api.CtHold, 1)}, api.ErrArg},
	} {
		if s, why, e := count.Play(p, x.log); !isZero(s) || len(why) > 0 || e != x.e {
			t.Errorf("%d: Play = %v, %v, %d", i, s, why, e)
		}
		for j, e := range logErrors(p, x.log) {
			if e != x.e {
				t.Errorf("%d: the function %d returns %d", i, j, e)
			}
		}
	}
}

// P8.2: the error of an event.
func TestEventErrors(t *testing.T) {
	fire := act(7, api.PdFire, ann, motor)
	act := func(v api.CtEvent, a api.PdAct) api.CtEvent { v.Act = a; return v }
	type eventCase struct {
		v api.CtEvent
		e api.Errno
	}
	l := []eventCase{
		{event(-1, 0, 0), api.ErrRange}, {event(100001, api.CtHold, 0), api.ErrRange}, {event(math.MinInt, api.CtHold, 0), api.ErrRange}, {event(math.MaxInt, api.CtHold, 0), api.ErrRange}, {event(100000, api.CtHold, 0), api.OK},
		{event(7, 0, -1), api.ErrArg}, {event(7, 10, -1), api.ErrArg}, {event(7, -1, 0), api.ErrArg}, {event(7, math.MaxInt, 0), api.ErrArg}, {event(7, math.MinInt, 0), api.ErrArg},
	}
	for kind, n := range map[int]int{api.CtBegin: 5, api.CtEnd: 5, api.CtGo: 2, api.CtNoGo: 2, api.CtRecycle: 2, api.CtCharge: 1} {
		l = append(l, eventCase{event(7, kind, n-1), api.OK}, eventCase{event(7, kind, 0), api.OK})
		for _, what := range []int{n, -1, math.MinInt, math.MaxInt} {
			l = append(l, eventCase{event(7, kind, what), api.ErrNone}, eventCase{act(event(7, kind, what), fire), api.ErrNone}, eventCase{event(-1, kind, what), api.ErrRange})
		}
		for _, a := range []api.PdAct{{At: 7}, {Kind: 1}, {Who: 1}, {What: 1}, {With: -1}, fire} {
			l = append(l, eventCase{act(event(7, kind, n-1), a), api.ErrArg})
		}
	}
	for _, kind := range []int{api.CtHold, api.CtResume} {
		l = append(l, eventCase{event(7, kind, 0), api.OK}, eventCase{event(7, kind, 1), api.ErrArg}, eventCase{event(7, kind, -1), api.ErrArg}, eventCase{act(event(7, kind, 0), fire), api.ErrArg})
	}
	with := func(change func(v *api.CtEvent)) api.CtEvent {
		v := person(fire)
		change(&v)
		return v
	}
	l = append(l,
		eventCase{person(fire), api.OK},
		eventCase{with(func(v *api.CtEvent) { v.What = 1 }), api.ErrArg},
		eventCase{with(func(v *api.CtEvent) { v.What, v.Act.Who = -1, 3 }), api.ErrArg},
		eventCase{with(func(v *api.CtEvent) { v.Act.At = 8 }), api.ErrArg},
		eventCase{with(func(v *api.CtEvent) { v.Act.At, v.Act.Who = 6, 3 }), api.ErrArg},
		eventCase{with(func(v *api.CtEvent) { v.Act.At = -1 }), api.ErrArg},
		eventCase{with(func(v *api.CtEvent) { v.Act.Kind = 0 }), api.ErrArg},
		eventCase{with(func(v *api.CtEvent) { v.Act.Kind = 10 }), api.ErrArg},
		eventCase{with(func(v *api.CtEvent) { v.Act.Who = 3 }), api.ErrNone},
		eventCase{with(func(v *api.CtEvent) { v.Act.What = 2 }), api.ErrNone},
		eventCase{with(func(v *api.CtEvent) { v.Act.With = 0 }), api.ErrArg},
		eventCase{with(func(v *api.CtEvent) { v.Act = api.PdAct{At: 7} }), api.ErrArg},
	)
	for i, x := range l {
		if _, why, e := count.Play(example(), []api.CtEvent{x.v}); e != x.e || (e == api.OK) != (len(why) == 1) {
			t.Errorf("%d: Play of %v = %v, %d, and not %d", i, x.v, why, e, x.e)
		}
	}
	// Whether an act has an error does not depend on the state.
	if _, why, e := count.Play(example(), []api.CtEvent{person(move(5, ann, bunker, -1)), person(fire), person(move(8, ann, rail, ann))}); len(why) > 0 || e != api.ErrArg {
		t.Errorf("Play = %v, %d", why, e)
	}
}

// P8.2: the reasons of begin, and their order.
func TestBegin(t *testing.T) {
	p := example()
	p.Steps[poll].On = []int{battery}
	main := logL()[:8] // fill, power and check are done, main is on
	type beginCase struct {
		log []api.CtEvent
		v   api.CtEvent
		e   api.Errno
	}
	for i, x := range []beginCase{
		{nil, begin(0, fill), api.OK},
		{[]api.CtEvent{hold(0)}, begin(0, fill), api.CtErrHeld},
		{[]api.CtEvent{hold(0), event(0, api.CtResume, 0)}, begin(0, fill), api.OK},
		{[]api.CtEvent{begin(0, fill), hold(1)}, begin(1, fill), api.CtErrState},
		{[]api.CtEvent{begin(0, fill), end(100, fill)}, begin(100, fill), api.CtErrState},
		{[]api.CtEvent{begin(0, fill), hold(1)}, begin(100, check), api.CtErrNeed},
		{[]api.CtEvent{begin(0, fill)}, begin(100, power), api.CtErrNeed},
		{main[:6], begin(120, poll), api.CtErrNeed},
		{main[:7], begin(120, poll), api.CtErrNeed},
		{and(main, hold(170)), begin(170, poll), api.CtErrHeld},
		{and(main, goes(170, safety)), begin(170, poll), api.CtErrPoll},
		{and(main, goes(170, house)), begin(170, poll), api.CtErrPoll},
		{and(main, goes(170, house), goes(170, safety)), begin(170, poll), api.OK},
		{and(main, goes(170, house), goes(170, safety)), begin(599, poll), api.OK},
		{and(main, goes(170, house), goes(170, safety)), begin(600, poll), api.CtErrBattery},
		{and(main, goes(170, house)), begin(600, poll), api.CtErrPoll},
		{main[:3], begin(100, check), api.CtErrBattery}, // it is off
	} {
		if _, why, e := count.Play(p, and(x.log, x.v)); e != api.OK || why[len(x.log)] != x.e {
			t.Errorf("%d: %v is refused for %v, %d, and not %d", i, x.v, why, e, x.e)
		}
	}
}

// powered is a plan of two steps: the first one uses both batteries, and switches on some, and, at its end, off some.
func powered(on, off []int) api.CtPlan {
	p := short()
	p.Batteries = []api.CtBattery{{Name: "a", Charge: 100, Rate: 3}, {Name: "b", Charge: 50, Rate: 1}}
	p.Steps = []api.CtStep{{Name: "both", Least: 1, Most: 100, On: on, Use: []int{0, 1}, Off: off}, {Name: "launch", Need: []int{0}, Most: 500, Off: []int{0, 1}}}
	return p
}

// P8.2, P8.5: batteries.
func TestBatteries(t *testing.T) {
	// Both have to be on, or to be switched on.
	play(t, powered(nil, nil), []api.CtEvent{begin(0, 0)}, api.CtErrBattery)
	play(t, powered([]int{0}, nil), []api.CtEvent{begin(0, 0)}, api.CtErrBattery)
	play(t, powered([]int{1}, nil), []api.CtEvent{begin(0, 0)}, api.CtErrBattery)
	p := powered([]int{0, 1}, []int{1})
	s := play(t, p, []api.CtEvent{begin(10, 0), hold(20), end(43, 0)}, api.OK, api.OK, api.OK)
	if !slices.Equal(s.Left, []int{1, 17}) || !slices.Equal(s.On, []bool{true, false}) {
		t.Errorf("%v", s)
	}
	// The first one is empty at 44: 34 ticks, with 3 each, are more than 100.
	play(t, p, []api.CtEvent{begin(10, 0), end(44, 0), end(43, 0)}, api.OK, api.CtErrBattery, api.OK)
	s = play(t, p, []api.CtEvent{begin(10, 0), hold(44), hold(45), end(45, 0)}, api.OK, api.OK, api.CtErrState, api.CtErrBattery)
	if !slices.Equal(s.Left, []int{0, 16}) || s.Now != 44 {
		t.Errorf("%v", s)
	}
	// A battery that is on is not charged; one that is off is. What is off stays as it is.
	log := []api.CtEvent{begin(10, 0), event(20, api.CtCharge, 0), end(30, 0), event(40, api.CtCharge, 0)}
	s = play(t, p, log, api.OK, api.CtErrState, api.OK, api.CtErrState)
	if l, e := count.Lasts(p, log); !slices.Equal(s.Left, []int{40, 30}) || !slices.Equal(l, []int{44, -1}) || e != api.OK {
		t.Errorf("%v, %v, %d", s, l, e)
	}
	log = and(log, event(50, api.CtCharge, 1), hold(60))
	s = play(t, p, log, api.OK, api.CtErrState, api.OK, api.CtErrState, api.OK, api.OK)
	if l, e := count.Lasts(p, log); !slices.Equal(s.Left, []int{0, 50}) || !slices.Equal(l, []int{60, -1}) || e != api.OK {
		t.Errorf("%v, %v, %d", s, l, e)
	}
	// A recycle switches off all, with the charges at its tick; then they can be charged.
	log = []api.CtEvent{begin(10, 0), event(20, api.CtRecycle, 0), event(30, api.CtCharge, 0), hold(30), event(30, api.CtResume, 0), begin(31, 0), hold(32)}
	s = play(t, p, log, api.OK, api.OK, api.OK, api.CtErrState, api.OK, api.OK, api.OK)
	if !slices.Equal(s.Left, []int{97, 39}) || !slices.Equal(s.On, []bool{true, true}) {
		t.Errorf("%v", s)
	}
	// A step does not switch on one that is empty, if it uses it.
	log = []api.CtEvent{begin(10, 0), event(60, api.CtRecycle, 0), event(60, api.CtResume, 0), begin(60, 0), event(60, api.CtCharge, 0), begin(60, 0), event(60, api.CtCharge, 1), begin(60, 0)}
	play(t, p, log, api.OK, api.OK, api.OK, api.CtErrBattery, api.OK, api.CtErrBattery, api.OK, api.OK)
}

// P8.2: the reasons of end, and their order.
func TestEnd(t *testing.T) {
	p := short()
	p.Stations = []string{"range"}
	p.Batteries = []api.CtBattery{{Name: "a", Charge: 20, Rate: 1}}
	p.Steps[0].Poll, p.Steps[0].On, p.Steps[0].Use, p.Steps[0].Acts = true, []int{0}, []int{0}, []api.PdAct{act(0, api.PdTake, ann, red)}
	p.Window = span(10, 12)
	enter := person(move(0, ann, bunker, -1))
	log := []api.CtEvent{goes(0, house), begin(0, 0)}
	silent := event(2, api.CtNoGo, house)
	type endCase struct {
		log []api.CtEvent
		at  int
		e   api.Errno
	}
	for i, x := range []endCase{
		{log[:1], 0, api.CtErrState}, {log[:1], 70, api.CtErrState},
		{log, 4, api.CtErrLength}, {log, 61, api.CtErrLength}, {and(log, silent), 4, api.CtErrLength}, {and(log, silent), 61, api.CtErrLength},
		{and(log, silent), 5, api.CtErrPoll}, {and(log, silent), 30, api.CtErrPoll}, {and(log, silent), 60, api.CtErrPoll},
		{log, 20, api.CtErrBattery}, {log, 60, api.CtErrBattery}, {and(log, enter), 20, api.CtErrBattery},
		{log, 9, api.CtErrWindow}, {log, 5, api.CtErrWindow}, {and(log, enter), 9, api.CtErrWindow}, {and(log, enter), 13, api.CtErrWindow}, {log, 19, api.CtErrWindow},
		{log, 10, api.PdErrFar}, {log, 12, api.PdErrFar},
		{and(log, enter), 10, api.OK}, {and(log, enter), 12, api.OK},
		// A step may end while it is held.
		{and(log, enter, hold(3)), 10, api.OK},
	} {
		if _, why, e := count.Play(p, and(x.log, end(x.at, 0))); e != api.OK || why[len(x.log)] != x.e {
			t.Errorf("%d: an end at %d is refused for %v, %d, and not %d", i, x.at, why, e, x.e)
		}
	}
	// The launch alone is in the window, and what has no poll needs no go.
	p = example()
	p.Window = span(1000, 1000)
	play(t, p, []api.CtEvent{begin(0, fill), end(200, fill)}, api.OK, api.OK)
	play(t, p, []api.CtEvent{begin(0, fill), end(201, fill)}, api.OK, api.CtErrLength)
	// A battery that a step uses can be switched off by another one.
	p.Steps[power].Off = []int{battery}
	play(t, p, and(logL()[:8]), api.OK, api.CtErrLength, api.OK, api.CtErrBattery, api.OK, api.OK, api.OK, api.CtErrBattery)
}

// P8.2: acts are done at the tick of the end of their step, all of them or none.
func TestActs(t *testing.T) {
	acts := []api.PdAct{move(0, ann, bunker, bob), act(0, api.PdTake, ann, red), act(0, api.PdSound, bob, 1)}
	s := play(t, short(acts...), []api.CtEvent{begin(3, 0), end(9, 0)}, api.OK, api.OK)
	want := api.PdState{Now: 9, Zones: []int{0, 0, -1}, Holder: []int{0, -1, -1}, Squibs: []int{0, 0}, Siren: 9}
	if !samePadState(s.Pad, want) || s.Now != 9 || !slices.Equal(s.Ended, []int{9}) {
		t.Errorf("%v", s)
	}
	p := short(append(acts, act(0, api.PdArm, bob, motor), act(0, api.PdTake, eve, red))...)
	s = play(t, p, []api.CtEvent{begin(3, 0), end(9, 0)}, api.OK, api.PdErrBadge)
	first, _ := count.Start(p)
	if !samePadState(s.Pad, first.Pad) || s.Now != 3 || !slices.Equal(s.Ended, []int{-1}) || s.Begun[0] != 3 {
		t.Errorf("%v", s)
	}
	// Those of people are done when they happen; the tick of the pad is that of the last one.
	p = short(act(0, api.PdTake, ann, red))
	p.Pad.Wait = 0
	log := people(move(1, ann, bunker, -1), act(1, api.PdSound, ann, 1), act(2, api.PdArm, ann, motor), act(2, api.PdTake, ann, red))
	s = play(t, p, and(log, begin(4, 0), end(9, 0), person(act(10, api.PdDisarm, ann, motor)), hold(11)), api.OK, api.OK, api.OK, api.PdErrState, api.OK, api.PdErrState, api.OK, api.OK)
	want = api.PdState{Now: 10, Zones: []int{0, -1, -1}, Holder: []int{-1, -1, -1}, Squibs: []int{0, 0}, Siren: 1}
	if !samePadState(s.Pad, want) || s.Now != 11 {
		t.Errorf("%v", s)
	}
}

// P8.2: holds, stations, recycles, and the launch.
func TestHoldsAndRecycles(t *testing.T) {
	p := example()
	resume := event(0, api.CtResume, 0)
	nogo := func(at, station int) api.CtEvent { return event(at, api.CtNoGo, station) }
	s := play(t, p, []api.CtEvent{resume, hold(0), hold(0), resume, resume}, api.CtErrState, api.OK, api.CtErrState, api.OK, api.CtErrState)
	if s.Held {
		t.Errorf("%v", s)
	}
	s = play(t, p, []api.CtEvent{nogo(0, safety), goes(0, safety), goes(1, safety), nogo(1, house), goes(2, house), nogo(3, safety), nogo(4, house)},
		api.CtErrState, api.OK, api.CtErrState, api.CtErrState, api.OK, api.OK, api.OK)
	if !s.Held || !slices.Equal(s.Go, []bool{false, false}) || s.Now != 4 {
		t.Errorf("%v", s)
	}
	s = play(t, p, []api.CtEvent{goes(0, safety), goes(0, house), hold(0), nogo(3, safety)}, api.OK, api.OK, api.OK, api.OK)
	if !s.Held || !slices.Equal(s.Go, []bool{true, false}) {
		t.Errorf("%v", s)
	}
	// What is behind a point waits again, whether it runs or is done, and whether it needs it or not.
	log := logL()[:14]
	s = play(t, p, and(log, event(195, api.CtRecycle, 1)), append(reasonsOfL()[:14], api.OK)...)
	if !slices.Equal(s.Begun, []int{0, 100, 110, -1, -1}) || !slices.Equal(s.Ended, []int{100, 120, 170, -1, -1}) || !s.Held || slices.Contains(s.Go, true) || s.On[0] || s.Left[0] != 810 {
		t.Errorf("%v", s)
	}
	s = play(t, p, and(log, event(195, api.CtRecycle, 0), event(196, api.CtRecycle, 1), event(196, api.CtRecycle, 0)), append(reasonsOfL()[:14], api.OK, api.CtErrState, api.CtErrState)...)
	if !slices.Equal(s.Begun, []int{0, -1, -1, -1, -1}) || !slices.Equal(s.Ended, []int{100, -1, -1, -1, -1}) || s.Now != 195 {
		t.Errorf("%v", s)
	}
	// A step that only runs is recycled, too; one that waits is not, even if some behind it do not.
	p.Points = []int{0, power, check}
	play(t, p, []api.CtEvent{event(0, api.CtRecycle, 0), begin(0, fill), event(1, api.CtRecycle, 1), event(1, api.CtRecycle, 0), event(1, api.CtRecycle, 0)}, api.CtErrState, api.OK, api.CtErrState, api.OK, api.CtErrState)
	// Nothing happens after the launch.
	s = play(t, p, logL(), reasonsOfL()...)
	after := []api.CtEvent{begin(199, fill), begin(200, fill), end(201, launch), hold(201), event(201, api.CtResume, 0), goes(201, house), nogo(201, house), event(201, api.CtRecycle, 0), person(act(201, api.PdThunder, ann, 1)), event(201, api.CtCharge, battery)}
	refused := append([]api.Errno{api.CtErrTime}, slices.Repeat([]api.Errno{api.CtErrState}, 9)...)
	if later := play(t, p, and(logL(), after...), append(reasonsOfL(), refused...)...); !sameState(s, later) {
		t.Errorf("%v and not %v", later, s)
	}
}

// reasonsOfL returns why the events of the log L are refused.
func reasonsOfL() []api.Errno {
	l := accepted(16)
	l[1], l[3], l[8], l[14] = api.CtErrLength, api.CtErrBattery, api.CtErrPoll, api.CtErrWindow
	return l
}

// P8.2: it is not recycled while a squib is armed.
func TestRecycleArmed(t *testing.T) {
	p := short()
	p.Pad.Wait = 0
	log := and(people(move(0, ann, bunker, -1), act(0, api.PdSound, ann, 1), act(0, api.PdArm, ann, chute)), begin(1, 0))
	recycle := event(2, api.CtRecycle, 0)
	s := play(t, p, and(log, recycle, person(act(3, api.PdDisarm, ann, chute)), event(4, api.CtRecycle, 0)), api.OK, api.OK, api.OK, api.OK, api.CtErrArmed, api.OK, api.OK)
	if !s.Held || s.Begun[0] != -1 || s.Now != 4 || s.Pad.Siren != 0 {
		t.Errorf("%v", s)
	}
	// One that is fired is no reason; and that the step waits comes first.
	play(t, p, and(log, person(act(1, api.PdFire, ann, chute)), recycle), api.OK, api.OK, api.OK, api.OK, api.OK, api.OK)
	play(t, p, and(log[:3], recycle), api.OK, api.OK, api.OK, api.CtErrState)
}
