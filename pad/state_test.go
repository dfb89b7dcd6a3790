package pad_test

import (
	"math"
	"slices"
	"testing"

	"hangfire/api"
	"hangfire/pad"
)

// P7.3: the first state.
func TestStart(t *testing.T) {
	s, e := pad.Start(example())
	if !sameState(s, first()) || e != api.OK {
		t.Errorf("Start = %v, %d", s, e)
	}
	empty := api.PdPad{Zones: []api.PdZone{{Name: "a", Room: 1, Pair: true}}}
	s, e = pad.Start(empty)
	if !sameState(s, api.PdState{Siren: -1}) || e != api.OK {
		t.Errorf("Start of a pad with a zone alone = %v, %d", s, e)
	}
	if e := pad.CheckState(empty, s); e != api.OK {
		t.Errorf("CheckState = %d", e)
	}
}

// stateCase is a change of the first state of the examples, and whether it is sound then.
type stateCase struct {
	change func(s *api.PdState)
	sound  bool
}

// runStates checks what CheckState, and all other functions with a state but Danger, return of a pad.
func runStates(t *testing.T, p api.PdPad, l []stateCase) {
	t.Helper()
	for i, x := range l {
		s := with(first(), x.change)
		if e := pad.CheckState(p, s); (e == api.OK) != x.sound {
			t.Errorf("%d: CheckState = %d", i, e)
		}
		if x.sound {
			continue
		}
		for j, e := range stateErrors(p, s) {
			if e != api.ErrForm {
				t.Errorf("%d: the function %d returns %d", i, j, e)
			}
		}
	}
}

// P7.3, P7.6: what is no state of the pad.
func TestNoState(t *testing.T) {
	for i, change := range []func(s *api.PdState){
		func(s *api.PdState) { s.Now = -1 },
		func(s *api.PdState) { s.Now = 100001 },
		func(s *api.PdState) { s.Now = math.MinInt },
		func(s *api.PdState) { s.Now = math.MaxInt },
		func(s *api.PdState) { s.Zones = nil },
		func(s *api.PdState) { s.Zones = s.Zones[:2] },
		func(s *api.PdState) { s.Zones = append(s.Zones, -1) },
		func(s *api.PdState) { s.Zones[0] = -2 },
		func(s *api.PdState) { s.Zones[2] = 3 },
		func(s *api.PdState) { s.Zones[1] = math.MaxInt },
		func(s *api.PdState) { s.Holder = nil },
		func(s *api.PdState) { s.Holder = s.Holder[:2] },
		func(s *api.PdState) { s.Holder = append(s.Holder, -1) },
		func(s *api.PdState) { s.Holder[0] = -2 },
		func(s *api.PdState) { s.Holder[2] = 3 },
		func(s *api.PdState) { s.Holder[1] = math.MinInt },
		func(s *api.PdState) { s.Squibs = nil },
		func(s *api.PdState) { s.Squibs = s.Squibs[:1] },
		func(s *api.PdState) { s.Squibs = append(s.Squibs, 0) },
		func(s *api.PdState) { s.Squibs[0] = -1 },
		func(s *api.PdState) { s.Squibs[1] = 3 },
		func(s *api.PdState) { s.Siren = -2 },
		func(s *api.PdState) { s.Siren = 1 },
		func(s *api.PdState) { s.Now, s.Siren = 50, 51 },
		func(s *api.PdState) { s.Siren = math.MinInt },
		func(s *api.PdState) { s.Siren = math.MaxInt },
		func(s *api.PdState) { *s = api.PdState{} },
	} {
		s := with(first(), change)
		runStates(t, example(), []stateCase{{change, false}})
		if l, e := pad.Danger(example(), s); len(l) > 0 || e != api.ErrForm {
			t.Errorf("%d: Danger = %v, %d", i, l, e)
		}
	}
}

// P7.3: the numbers of a state, and who may be where.
func TestSoundPeople(t *testing.T) {
	runStates(t, example(), []stateCase{
		{func(s *api.PdState) {}, true},
		{func(s *api.PdState) { s.Now, s.Siren = 100000, 100000 }, true},
		{func(s *api.PdState) { s.Now, s.Siren = 50, 0 }, true},
		{func(s *api.PdState) { s.Storm = true }, true},
		{func(s *api.PdState) { s.Squibs = []int{2, 2} }, true},
		// The bunker asks for nothing, the road for grade 1, and the rail for grade 2, and keys, and two people.
		{func(s *api.PdState) { s.Zones = []int{0, 0, 0} }, true},
		{func(s *api.PdState) { s.Zones = []int{1, 1, 1} }, true},
		{func(s *api.PdState) { s.Zones, s.Holder = []int{2, 2, -1}, []int{0, 1, 0} }, false}, // bob has no key of chute
		{func(s *api.PdState) { s.Zones, s.Squibs = []int{2, 2, -1}, []int{2, 2} }, true},
		{func(s *api.PdState) { s.Zones, s.Squibs = []int{2, -1, -1}, []int{2, 2} }, false},
		{func(s *api.PdState) { s.Zones, s.Squibs = []int{2, -1, 2}, []int{2, 2} }, false},
		{func(s *api.PdState) { s.Zones, s.Squibs = []int{2, 2, 2}, []int{2, 2} }, false},
		{func(s *api.PdState) { s.Zones, s.Squibs, s.Holder = []int{2, 2, -1}, []int{0, 2}, []int{0, 1, -1} }, true},
		{func(s *api.PdState) { s.Zones, s.Squibs, s.Holder = []int{2, 2, -1}, []int{0, 2}, []int{1, 0, -1} }, true},
		{func(s *api.PdState) { s.Zones, s.Squibs, s.Holder = []int{2, 2, -1}, []int{0, 2}, []int{0, 0, -1} }, false},
		{func(s *api.PdState) { s.Zones, s.Squibs, s.Holder = []int{2, 2, -1}, []int{0, 2}, []int{0, 2, 1} }, false},
		{func(s *api.PdState) { s.Zones, s.Squibs, s.Holder = []int{2, 2, -1}, []int{0, 2}, []int{0, -1, -1} }, false},
		// There may be a storm while people are at the rail.
		{func(s *api.PdState) {
			s.Zones, s.Squibs, s.Holder, s.Storm = []int{2, 2, -1}, []int{0, 2}, []int{0, 1, -1}, true
		}, true},
		// A key may be anywhere else.
		{func(s *api.PdState) { s.Holder = []int{0, 1, 2} }, true},
		{func(s *api.PdState) { s.Zones, s.Holder = []int{0, 1, 1}, []int{2, 2, 1} }, true},
	})
}

// P7.3: room, pairs and grades.
func TestSoundZones(t *testing.T) {
	p := example()
	p.Squibs, p.Zones[0].Room, p.Zones[1].Pair, p.Zones[1].Grade = nil, 1, true, 0
	l := []stateCase{
		{func(s *api.PdState) { s.Zones = []int{0, -1, 1} }, false},
		{func(s *api.PdState) { s.Zones = []int{0, 1, 1} }, true},
		{func(s *api.PdState) { s.Zones = []int{1, 1, 1} }, true},
		{func(s *api.PdState) { s.Zones = []int{0, 0, -1} }, false},
		{func(s *api.PdState) { s.Zones = []int{-1, -1, -1} }, true},
		{func(s *api.PdState) { s.Zones = []int{-1, -1, 0} }, true},
	}
	for i := range l {
		change := l[i].change
		l[i].change = func(s *api.PdState) { change(s); s.Squibs = nil }
	}
	runStates(t, p, l)
}

// P7.3: what is asked of an armed squib.
func TestSoundArmed(t *testing.T) {
	armed := func(change func(s *api.PdState)) func(s *api.PdState) {
		return func(s *api.PdState) {
			s.Now, s.Siren, s.Squibs[motor] = 50, 50, 1 // it may be on for less than Wait ticks
			change(s)
		}
	}
	runStates(t, example(), []stateCase{
		{armed(func(s *api.PdState) {}), true},
		{armed(func(s *api.PdState) { s.Squibs = []int{1, 1} }), true},
		{armed(func(s *api.PdState) { s.Squibs = []int{1, 2} }), true},
		{armed(func(s *api.PdState) { s.Siren = -1 }), false},
		{armed(func(s *api.PdState) { s.Siren = 0 }), true},
		{armed(func(s *api.PdState) { s.Storm = true }), false},
		{armed(func(s *api.PdState) { s.Holder[red] = ann }), false},
		{armed(func(s *api.PdState) { s.Holder[blue] = eve }), false},
		{armed(func(s *api.PdState) { s.Holder[grey] = ann }), true},
		{armed(func(s *api.PdState) { s.Squibs, s.Holder[grey] = []int{0, 1}, ann }), false},
		{armed(func(s *api.PdState) { s.Squibs, s.Holder[red] = []int{0, 1}, ann }), true},
		{armed(func(s *api.PdState) { s.Squibs, s.Siren = []int{2, 0}, -1 }), true},
		{armed(func(s *api.PdState) { s.Zones = []int{0, 1, 1} }), true},
		{armed(func(s *api.PdState) { s.Zones = []int{2, 2, 1} }), false},
		{armed(func(s *api.PdState) { s.Zones, s.Holder = []int{2, 2, 1}, []int{0, 1, -1} }), false},
	})
}

// P7.6
func TestDanger(t *testing.T) {
	p := example()
	for i, c := range []struct {
		zones, squibs []int
		want          []api.PdDanger
	}{
		{[]int{-1, -1, -1}, []int{1, 1}, nil},
		{[]int{0, 1, 1}, []int{1, 1}, nil},
		{[]int{2, 2, 2}, []int{0, 2}, nil},
		{[]int{2, 1, 2}, []int{1, 0}, []api.PdDanger{{Squib: motor, Person: ann}, {Squib: motor, Person: eve}}},
		{[]int{-1, 2, 0}, []int{0, 1}, []api.PdDanger{{Squib: chute, Person: bob}}},
		{[]int{1, 2, 2}, []int{1, 1}, []api.PdDanger{{Squib: motor, Person: bob}, {Squib: motor, Person: eve}, {Squib: chute, Person: bob}, {Squib: chute, Person: eve}}},
		{[]int{1, 2, 2}, []int{2, 1}, []api.PdDanger{{Squib: chute, Person: bob}, {Squib: chute, Person: eve}}},
	} {
		// Whether it is sound does not matter: with or without keys, siren and storm.
		for _, s := range []api.PdState{
			{Zones: c.zones, Holder: []int{-1, -1, -1}, Squibs: c.squibs, Siren: -1},
			{Zones: c.zones, Holder: []int{0, 1, 2}, Squibs: c.squibs, Storm: true},
		} {
			if l, e := pad.Danger(p, s); !slices.Equal(l, c.want) || e != api.OK {
				t.Errorf("%d: Danger = %v, %d", i, l, e)
			}
		}
	}
}

// P7.7
func TestOwed(t *testing.T) {
	p := example()
	for i, c := range []struct {
		holder []int
		squib  int
		want   []int
	}{
		{[]int{-1, -1, -1}, motor, nil}, {[]int{-1, -1, -1}, chute, nil},
		{[]int{0, 1, 2}, motor, []int{red, blue}}, {[]int{0, 1, 2}, chute, []int{grey}},
		{[]int{-1, 1, -1}, motor, []int{blue}}, {[]int{2, -1, 2}, motor, []int{red}}, {[]int{2, 2, -1}, chute, nil},
	} {
		for _, is := range []int{api.PdSafe, api.PdFired} {
			s := holding(first(), c.holder...)
			s.Squibs[c.squib] = is
			if l, e := pad.Owed(p, s, c.squib); !slices.Equal(l, c.want) || e != api.OK {
				t.Errorf("%d: Owed = %v, %d", i, l, e)
			}
		}
	}
	p.Squibs[chute].Keys = []int{red, grey}
	if l, e := pad.Owed(p, holding(first(), 1, 1, 0), chute); !slices.Equal(l, []int{red, grey}) || e != api.OK {
		t.Errorf("Owed = %v, %d", l, e)
	}
	for _, squib := range []int{-1, 2, math.MinInt, math.MaxInt} {
		if l, e := pad.Owed(p, first(), squib); len(l) > 0 || e != api.ErrNone {
			t.Errorf("Owed of %d = %v, %d", squib, l, e)
		}
	}
}

// P7.8, with the examples of the chapter.
func TestMay(t *testing.T) {
	open := example()
	open.Squibs, open.Zones[rail].Pair, open.Zones[rail].Room = nil, false, 1
	closed := holding(in(1, 1, 1), ann, -1, ann)
	for i, c := range []struct {
		p    api.PdPad
		s    api.PdState
		zone int
		want []int
	}{
		{example(), first(), bunker, []int{ann, bob, eve}},
		{example(), first(), road, nil}, {example(), first(), rail, nil}, {example(), first(), -1, nil},
		{example(), in(0, 0, 1), -1, []int{ann, bob}}, {example(), in(0, 0, 1), road, []int{ann, bob}}, {example(), in(0, 0, 1), bunker, []int{eve}},
		// Nobody goes to the rail alone, even with all keys.
		{example(), closed, rail, nil},
		{open, with(in(1, 1, 1), noSquibs), rail, []int{ann, bob}},
		{open, with(in(2, 1, 1), noSquibs), rail, nil},
		{open, with(in(2, 1, 0), noSquibs), road, []int{ann, eve}},
	} {
		for _, now := range []int{0, 7, 100000} {
			s := with(c.s, func(s *api.PdState) { s.Now = now })
			if l, e := pad.May(c.p, s, c.zone); !slices.Equal(l, c.want) || e != api.OK {
				t.Errorf("%d: May = %v, %d", i, l, e)
			}
		}
	}
	for _, zone := range []int{-2, 3, math.MinInt, math.MaxInt} {
		if l, e := pad.May(example(), first(), zone); len(l) > 0 || e != api.ErrNone {
			t.Errorf("May of %d = %v, %d", zone, l, e)
		}
	}
}

// noSquibs makes a state one of a pad without squibs.
func noSquibs(s *api.PdState) { s.Squibs = nil }

// P7.8: a storm, and keys.
func TestMayNear(t *testing.T) {
	p := example()
	p.Zones[rail].Pair, p.Squibs[motor].Keys = false, []int{red, blue, grey}
	p.People[eve].Grade = 9
	s := holding(in(1, 1, 1), bob, ann, eve) // bob has a key of motor, ann another one, eve one of both
	check := func(want ...int) {
		t.Helper()
		if l, e := pad.May(p, s, rail); !slices.Equal(l, want) || e != api.OK {
			t.Errorf("May = %v, %d", l, e)
		}
	}
	check(eve)
	s.Squibs[chute] = api.PdFired
	check(ann, bob, eve)
	s.Storm = true
	check()
	s.Squibs[motor] = api.PdFired
	check(ann, bob, eve)
	s.Holder = []int{-1, -1, -1}
	check(ann, bob, eve)
}
