package pad_test

import (
	"math"
	"testing"

	"hangfire/api"
	"hangfire/pad"
)

// doCase is an act in a state of the pad of the examples: why it is refused, or what it changes.
type doCase struct {
	s     api.PdState
	a     api.PdAct
	why   api.Errno
	after func(s *api.PdState)
}

// refused returns a case of an act that is refused.
func refused(s api.PdState, a api.PdAct, why api.Errno) doCase { return doCase{s: s, a: a, why: why} }

// done returns a case of an act that is not refused.
func done(s api.PdState, a api.PdAct, after func(s *api.PdState)) doCase {
	return doCase{s: s, a: a, after: after}
}

func runActs(t *testing.T, p api.PdPad, l []doCase) {
	t.Helper()
	for i, c := range l {
		if e := pad.CheckState(p, c.s); e != api.OK {
			t.Fatalf("%d: CheckState of %v = %d", i, c.s, e)
		}
		var want api.PdState
		if c.after != nil {
			want = with(c.s, c.after)
			want.Now = c.a.At
		}
		if after, why := pad.Do(p, c.s, c.a); !sameState(after, want) || why != c.why {
			t.Errorf("%d: Do of %v = %v, %d", i, c.a, after, why)
		}
	}
}

// P7.4, P7.5: the errors of an act, in their order.
func TestActErrors(t *testing.T) {
	none := func(kind, what, with int) api.PdAct { return api.PdAct{Kind: kind, What: what, With: with} }
	l := []struct {
		a api.PdAct
		e api.Errno
	}{
		// No ticks, with all other errors.
		{api.PdAct{At: -1, Kind: 0, Who: -1, What: -2, With: -2}, api.ErrRange},
		{api.PdAct{At: 100001, Kind: 10, Who: 3, What: 9, With: 9}, api.ErrRange},
		{alone(math.MinInt, ann, bunker), api.ErrRange}, {alone(math.MaxInt, ann, bunker), api.ErrRange},
		// No kinds, with all errors behind this one.
		{api.PdAct{Kind: 0, Who: -1, What: -2, With: -2}, api.ErrArg}, {api.PdAct{Kind: 10, Who: 3, What: -2, With: -2}, api.ErrArg},
		{api.PdAct{Kind: -1}, api.ErrArg}, {api.PdAct{Kind: math.MinInt}, api.ErrArg}, {api.PdAct{Kind: math.MaxInt}, api.ErrArg},
		// No zones, keys and squibs.
		{none(api.PdMove, -2, -1), api.ErrNone}, {none(api.PdMove, 3, -1), api.ErrNone}, {none(api.PdMove, math.MaxInt, 0), api.ErrNone},
		{none(api.PdTake, -1, 0), api.ErrNone}, {none(api.PdTake, 3, -1), api.ErrNone}, {none(api.PdPut, -1, 0), api.ErrNone}, {none(api.PdPut, 3, -1), api.ErrNone},
		{none(api.PdGive, -1, 1), api.ErrNone}, {none(api.PdGive, 3, 1), api.ErrNone}, {none(api.PdGive, 3, 0), api.ErrNone},
		{none(api.PdArm, -1, 0), api.ErrNone}, {none(api.PdArm, 2, -1), api.ErrNone}, {none(api.PdDisarm, -1, 0), api.ErrNone}, {none(api.PdDisarm, 2, -1), api.ErrNone},
		{none(api.PdFire, -1, 0), api.ErrNone}, {none(api.PdFire, 2, -1), api.ErrNone},
		// Neither 1 nor 0.
		{none(api.PdSound, 2, -1), api.ErrArg}, {none(api.PdSound, -1, -1), api.ErrArg}, {none(api.PdThunder, 2, -1), api.ErrArg}, {none(api.PdThunder, -1, -1), api.ErrArg},
		{none(api.PdThunder, math.MaxInt, 0), api.ErrArg},
		// With somebody, alone, with nobody there is, and with oneself.
		{none(api.PdTake, 0, 0), api.ErrArg}, {none(api.PdPut, 0, 1), api.ErrArg}, {none(api.PdArm, 0, -2), api.ErrArg}, {none(api.PdDisarm, 0, 3), api.ErrArg},
		{none(api.PdFire, 0, 0), api.ErrArg}, {none(api.PdSound, 1, 1), api.ErrArg}, {none(api.PdThunder, 0, 0), api.ErrArg},
		{none(api.PdMove, 0, -2), api.ErrNone}, {none(api.PdMove, 0, 3), api.ErrNone}, {none(api.PdMove, 0, 0), api.ErrArg}, {none(api.PdMove, -1, 0), api.ErrArg},
		{none(api.PdGive, 0, -1), api.ErrNone}, {none(api.PdGive, 0, -2), api.ErrNone}, {none(api.PdGive, 0, 3), api.ErrNone}, {none(api.PdGive, 0, 0), api.ErrArg},
		{none(api.PdMove, 0, math.MinInt), api.ErrNone}, {none(api.PdGive, 0, math.MaxInt), api.ErrNone},
	}
	for kind := api.PdMove; kind <= api.PdThunder; kind++ {
		for _, who := range []int{-1, 3, math.MinInt, math.MaxInt} { // also where What is neither 1 nor 0, and with themselves
			l = append(l, struct {
				a api.PdAct
				e api.Errno
			}{api.PdAct{Kind: kind, Who: who, What: 2, With: who}, api.ErrNone})
		}
	}
	// They come before all reasons: also in a state in which the act would be refused with PdErrTime.
	for _, s := range []api.PdState{first(), with(first(), func(s *api.PdState) { s.Now = 50 })} {
		for _, c := range l {
			after, e := pad.Do(example(), s, c.a)
			if !isZero(after) || e != c.e {
				t.Errorf("Do of %v = %v, %d", c.a, after, e)
			}
			after, why, e := pad.Play(example(), s, []api.PdAct{act(60, api.PdThunder, ann, 1), c.a, {}})
			if !isZero(after) || len(why) > 0 || e != c.e {
				t.Errorf("Play of %v = %v, %v, %d", c.a, after, why, e)
			}
		}
	}
}

// P7.4: no act is done before another one, whatever it is.
func TestActTime(t *testing.T) {
	s := with(in(0, 0, 0), func(s *api.PdState) { s.Now, s.Siren = 50, 3 })
	for _, a := range []api.PdAct{alone(49, ann, road), alone(0, ann, rail), act(49, api.PdTake, ann, red), act(0, api.PdPut, ann, red), give(49, ann, red, bob), act(49, api.PdArm, ann, motor),
		act(0, api.PdArm, eve, motor), act(49, api.PdDisarm, ann, motor), act(49, api.PdFire, ann, motor), act(49, api.PdSound, ann, 0), act(49, api.PdThunder, ann, 1), act(49, api.PdThunder, ann, 0)} {
		runActs(t, example(), []doCase{refused(s, a, api.PdErrTime)})
	}
	runActs(t, example(), []doCase{
		done(s, alone(50, ann, road), func(s *api.PdState) { s.Zones[ann] = road }),
		done(s, alone(100000, ann, road), func(s *api.PdState) { s.Zones[ann] = road }),
	})
}

// P7.4: who goes where.
func TestMove(t *testing.T) {
	to := func(zone int, people ...int) func(s *api.PdState) {
		return func(s *api.PdState) {
			for _, i := range people {
				s.Zones[i] = zone
			}
		}
	}
	keys := holding(in(1, 1, 1), ann, bob, bob)
	fired := with(in(1, 1, 1), func(s *api.PdState) { s.Squibs = []int{2, 2} })
	half := with(holding(in(1, 1, 1), ann, bob, -1), func(s *api.PdState) { s.Squibs[chute] = 2 })
	rails := with(fired, func(s *api.PdState) { s.Zones = []int{2, 2, 1} })
	runActs(t, example(), []doCase{
		done(first(), alone(0, ann, bunker), to(bunker, ann)),
		done(first(), move(5, ann, bunker, eve), to(bunker, ann, eve)),
		done(in(0, 0, 0), alone(5, bob, -1), to(-1, bob)),
		done(in(0, 0, 0), move(5, bob, -1, eve), to(-1, bob, eve)),
		done(in(0, 0, 0), alone(5, eve, road), to(road, eve)),
		done(in(0, 1, 0), alone(5, bob, bunker), to(bunker, bob)),
		// No door: not even to where one is.
		refused(first(), alone(0, ann, road), api.PdErrFar), refused(first(), alone(0, ann, -1), api.PdErrFar),
		refused(in(0, 0, 0), alone(0, ann, bunker), api.PdErrFar), refused(in(0, 0, 0), alone(0, eve, rail), api.PdErrFar),
		refused(in(1, 0, 0), alone(0, ann, -1), api.PdErrFar),
		// The other one is somewhere else.
		refused(in(0, 1, 0), move(0, ann, road, bob), api.PdErrFar), refused(in(0, -1, 0), move(0, ann, -1, bob), api.PdErrFar), refused(in(0, 1, 0), move(0, bob, bunker, ann), api.PdErrFar),
		// Grades come before keys, and keys of the first one before the grade of the other one.
		refused(keys, alone(0, eve, rail), api.PdErrBadge), refused(keys, move(0, eve, rail, bob), api.PdErrBadge),
		refused(keys, move(0, bob, rail, eve), api.PdErrBadge), refused(keys, move(0, ann, rail, eve), api.PdErrKey),
		refused(keys, move(0, ann, rail, bob), api.PdErrKey), refused(keys, move(0, bob, rail, ann), api.PdErrKey),
		refused(keys, alone(0, bob, rail), api.PdErrPair),
		done(half, move(0, ann, rail, bob), to(rail, ann, bob)), done(half, move(0, bob, rail, ann), to(rail, ann, bob)),
		refused(half, alone(0, ann, rail), api.PdErrPair),
		// A storm comes behind grades, and before keys.
		refused(with(half, storm), move(0, ann, rail, bob), api.PdErrStorm), refused(with(keys, storm), move(0, ann, rail, bob), api.PdErrStorm),
		refused(with(keys, storm), alone(0, eve, rail), api.PdErrBadge), refused(with(keys, storm), move(0, bob, rail, eve), api.PdErrStorm),
		done(with(first(), storm), alone(0, ann, bunker), to(bunker, ann)), done(with(half, storm), alone(0, ann, bunker), to(bunker, ann)),
		done(with(fired, storm), move(0, ann, rail, bob), to(rail, ann, bob)),
		// Pairs: neither alone there, nor alone left behind.
		done(fired, move(0, ann, rail, bob), to(rail, ann, bob)), refused(fired, alone(0, ann, rail), api.PdErrPair),
		refused(rails, alone(0, ann, road), api.PdErrPair), refused(rails, alone(0, bob, road), api.PdErrPair), done(rails, move(0, bob, road, ann), to(road, ann, bob)),
		done(with(rails, storm), move(0, bob, road, ann), to(road, ann, bob)),
	})
}

// storm makes a storm.
func storm(s *api.PdState) { s.Storm = true }

// P7.4: rooms and pairs, in a pad without squibs and with a shed behind the rail.
func TestMoveRooms(t *testing.T) {
	const shed = 3
	p := example()
	p.Squibs = nil
	p.Zones = append(p.Zones, api.PdZone{Name: "shed", Grade: 2, Room: 1, Pair: true})
	p.Doors = append(p.Doors, api.PdDoor{A: shed, B: rail}, api.PdDoor{A: -1, B: shed})
	p.People[eve].Grade, p.Zones[road].Room, p.Zones[rail].Room = 2, 2, 3
	at := func(zones ...int) api.PdState { return with(in(zones...), noSquibs) }
	to := func(zones ...int) func(s *api.PdState) { return func(s *api.PdState) { s.Zones = zones } }
	runActs(t, p, []doCase{
		refused(at(1, 1, 0), alone(0, eve, road), api.PdErrFull), done(at(1, 0, 0), alone(0, eve, road), to(1, 0, 1)),
		refused(at(1, 0, 0), move(0, eve, road, bob), api.PdErrFull), done(at(-1, 0, 0), move(0, eve, road, bob), to(-1, 1, 1)),
		// Where nobody may be alone there may be nobody, two, or three: one of three goes, but not two of three, and not one of two.
		done(at(2, 2, 1), alone(0, eve, rail), to(2, 2, 2)), done(at(2, 2, 2), alone(0, ann, road), to(1, 2, 2)),
		refused(at(2, 2, 2), move(0, ann, road, eve), api.PdErrPair), refused(at(2, 2, -1), alone(0, ann, road), api.PdErrPair),
		done(at(2, 2, -1), move(0, ann, road, bob), to(1, 1, -1)),
		// Full comes before pairs, which are looked at behind the door and in front of it.
		refused(at(2, 2, 2), move(0, ann, shed, eve), api.PdErrFull), refused(at(-1, -1, -1), move(0, ann, shed, eve), api.PdErrFull),
		refused(at(2, 2, 2), alone(0, ann, shed), api.PdErrPair), refused(at(-1, -1, -1), alone(0, ann, shed), api.PdErrPair),
		// There is room for everybody outside.
		done(at(0, 0, -1), move(0, ann, -1, bob), to(-1, -1, -1)),
	})
}

// P7.4: keys are taken from the panel, and put back.
func TestKeys(t *testing.T) {
	s := holding(in(0, 0, 1), -1, ann, bob)
	armed := with(holding(in(0, 0, 1), -1, -1, bob), func(s *api.PdState) { s.Siren, s.Squibs[motor] = 0, 1 })
	gone := with(armed, func(s *api.PdState) { s.Squibs[motor] = api.PdFired })
	key := func(key, who int) func(s *api.PdState) { return func(s *api.PdState) { s.Holder[key] = who } }
	runActs(t, example(), []doCase{
		done(s, act(5, api.PdTake, ann, red), key(red, ann)), done(s, act(5, api.PdTake, bob, red), key(red, bob)),
		refused(s, act(5, api.PdTake, eve, red), api.PdErrFar), refused(first(), act(5, api.PdTake, ann, red), api.PdErrFar),
		refused(s, act(5, api.PdTake, eve, grey), api.PdErrFar), refused(s, act(5, api.PdTake, bob, grey), api.PdErrKey), refused(s, act(5, api.PdTake, bob, blue), api.PdErrKey),
		done(s, act(5, api.PdPut, ann, blue), key(blue, -1)), done(s, act(5, api.PdPut, bob, grey), key(grey, -1)),
		refused(s, act(5, api.PdPut, ann, red), api.PdErrKey), refused(s, act(5, api.PdPut, ann, grey), api.PdErrKey), refused(s, act(5, api.PdPut, bob, blue), api.PdErrKey),
		refused(s, act(5, api.PdPut, eve, red), api.PdErrFar), refused(holding(in(1, 0, 1), -1, ann, bob), act(5, api.PdPut, ann, blue), api.PdErrFar),
		// Those of an armed squib stay in the panel.
		refused(armed, act(5, api.PdTake, ann, red), api.PdErrState), refused(armed, act(5, api.PdTake, bob, blue), api.PdErrState), refused(armed, act(5, api.PdTake, ann, grey), api.PdErrKey),
		refused(armed, act(5, api.PdTake, eve, red), api.PdErrFar),
		done(gone, act(5, api.PdTake, ann, red), key(red, ann)), done(with(armed, unarm), act(5, api.PdTake, ann, blue), key(blue, ann)),
		done(armed, act(5, api.PdPut, bob, grey), key(grey, -1)),
	})
	// A key of two squibs, of which the second one is armed.
	p := example()
	p.Squibs[chute].Keys = []int{blue, grey}
	both := with(in(0, 0, 0), func(s *api.PdState) { s.Siren, s.Squibs[chute] = 0, 1 })
	runActs(t, p, []doCase{
		refused(both, act(5, api.PdTake, ann, blue), api.PdErrState), refused(both, act(5, api.PdTake, ann, grey), api.PdErrState),
		done(both, act(5, api.PdTake, ann, red), key(red, ann)),
	})
	// The panel is in another zone.
	p.Panel = road
	there := holding(in(1, 0, -1), -1, ann, bob)
	runActs(t, p, []doCase{
		done(there, act(5, api.PdTake, ann, red), key(red, ann)), refused(there, act(5, api.PdTake, bob, red), api.PdErrFar),
		done(there, act(5, api.PdPut, ann, blue), key(blue, -1)), refused(there, act(5, api.PdPut, bob, grey), api.PdErrFar),
	})
}

// unarm makes the motor safe.
func unarm(s *api.PdState) { s.Squibs[motor] = api.PdSafe }

// P7.4: keys are given, anywhere.
func TestGive(t *testing.T) {
	key := func(key, who int) func(s *api.PdState) { return func(s *api.PdState) { s.Holder[key] = who } }
	s := holding(in(0, 0, 1), ann, ann, eve)
	p := example()
	p.Squibs[motor].Keys, p.Squibs[chute].Keys = []int{red, blue}, []int{red, blue, grey}
	at := func(holder ...int) api.PdState { return holding(in(2, 2, -1), holder...) }
	p.Keys, p.Squibs[motor].Keys = append(p.Keys, "white"), []int{red, blue, 3}
	runActs(t, example(), []doCase{
		done(s, give(5, ann, red, bob), key(red, bob)), done(s, give(5, ann, blue, bob), key(blue, bob)),
		done(holding(first(), ann, -1, -1), give(5, ann, red, eve), key(red, eve)), done(holding(in(1, 1, 1), -1, -1, bob), give(5, bob, grey, ann), key(grey, ann)),
		refused(s, give(5, ann, grey, bob), api.PdErrKey), refused(s, give(5, bob, red, ann), api.PdErrKey), refused(s, give(5, ann, grey, eve), api.PdErrKey),
		refused(s, give(5, ann, red, eve), api.PdErrFar), refused(s, give(5, eve, grey, bob), api.PdErrFar), refused(holding(in(0, -1, 1), ann, ann, eve), give(5, ann, red, bob), api.PdErrFar),
		refused(holding(in(0, 0, 0), -1, -1, -1), give(5, ann, red, bob), api.PdErrKey),
	})
	// Near both squibs, each of which has keys of its own, and two that both have.
	runActs(t, p, []doCase{
		done(at(ann, bob, ann, ann), give(5, ann, grey, bob), key(grey, bob)), done(at(ann, bob, ann, ann), give(5, ann, 3, bob), key(3, bob)),
		done(at(ann, bob, ann, ann), give(5, ann, red, bob), key(red, bob)),                    // grey and white are left
		refused(at(ann, bob, ann, bob), give(5, ann, red, bob), api.PdErrNear),                 // none of motor is left
		refused(at(ann, bob, bob, ann), give(5, ann, red, bob), api.PdErrNear),                 // none of chute is left
		done(at(ann, ann, bob, bob), give(5, ann, red, bob), key(red, bob)),                    // blue is left
		done(at(ann, bob, ann, bob), give(5, ann, grey, bob), key(grey, bob)),                  // red is left
		refused(at(ann, bob, -1, -1), give(5, bob, blue, ann), api.PdErrNear),                  // also if the other one has one
		refused(at(ann, bob, -1, -1), give(5, bob, red, ann), api.PdErrKey),                    // that is not theirs
		done(with(at(ann, bob, ann, bob), gone(motor)), give(5, ann, red, bob), key(red, bob)), // chute alone counts: grey is left
		refused(with(at(ann, bob, ann, bob), gone(chute)), give(5, ann, red, bob), api.PdErrNear),
		done(with(at(ann, bob, ann, bob), gone(motor, chute)), give(5, ann, red, bob), key(red, bob)),
	})
	// Somewhere else comes before near.
	p.Zones[rail].Pair = false
	runActs(t, p, []doCase{refused(holding(in(2, 1, -1), ann, bob, -1, -1), give(5, ann, red, bob), api.PdErrFar)})
}

// gone fires squibs.
func gone(squibs ...int) func(s *api.PdState) {
	return func(s *api.PdState) {
		for _, i := range squibs {
			s.Squibs[i] = api.PdFired
		}
	}
}

// P7.4: squibs are armed.
func TestArm(t *testing.T) {
	on := with(in(0, 0, 0), func(s *api.PdState) { s.Now, s.Siren = 50, 7 })
	is := func(squib, n int) func(s *api.PdState) { return func(s *api.PdState) { s.Squibs[squib] = n } }
	taken := holding(on, -1, ann, -1)
	runActs(t, example(), []doCase{
		done(on, act(107, api.PdArm, ann, motor), is(motor, 1)), done(on, act(100000, api.PdArm, ann, chute), is(chute, 1)),
		done(with(on, is(motor, 1)), act(107, api.PdArm, ann, chute), is(chute, 1)), done(taken, act(107, api.PdArm, ann, chute), is(chute, 1)),
		// The reasons, each of them with all those behind it, and then alone.
		refused(with(holding(in(1, 1, 1), ann, -1, -1), storm), act(5, api.PdArm, eve, motor), api.PdErrFar), refused(with(on, zones(1, 0, 0)), act(107, api.PdArm, ann, motor), api.PdErrFar),
		refused(with(with(taken, storm), gone(motor)), act(60, api.PdArm, bob, motor), api.PdErrBadge), refused(on, act(107, api.PdArm, bob, motor), api.PdErrBadge), refused(on, act(107, api.PdArm, bob, chute), api.PdErrBadge),
		refused(with(with(taken, storm), gone(motor)), act(60, api.PdArm, ann, motor), api.PdErrState), refused(with(on, is(motor, 1)), act(107, api.PdArm, ann, motor), api.PdErrState),
		refused(with(on, is(motor, 2)), act(107, api.PdArm, ann, motor), api.PdErrState),
		refused(with(taken, storm), act(60, api.PdArm, ann, motor), api.PdErrStorm), refused(with(on, storm), act(107, api.PdArm, ann, motor), api.PdErrStorm),
		refused(taken, act(60, api.PdArm, ann, motor), api.PdErrKey), refused(taken, act(107, api.PdArm, ann, motor), api.PdErrKey), refused(holding(on, eve, -1, -1), act(107, api.PdArm, ann, motor), api.PdErrKey),
		refused(on, act(106, api.PdArm, ann, motor), api.PdErrSiren), refused(on, act(50, api.PdArm, ann, motor), api.PdErrSiren), refused(in(0, 0, 0), act(100000, api.PdArm, ann, motor), api.PdErrSiren),
	})
	p := example()
	p.Wait, p.People[bob].Grade = 0, 3
	runActs(t, p, []doCase{
		done(on, act(50, api.PdArm, ann, motor), is(motor, 1)), done(with(in(0, 0, 0), func(s *api.PdState) { s.Siren = 0 }), act(0, api.PdArm, bob, chute), is(chute, 1)),
		refused(in(0, 0, 0), act(50, api.PdArm, ann, motor), api.PdErrSiren),
	})
}

// zones puts people into zones.
func zones(l ...int) func(s *api.PdState) { return func(s *api.PdState) { s.Zones = l } }

// P7.4: squibs are made safe, and fired.
func TestDisarmAndFire(t *testing.T) {
	armed := with(in(0, 0, 0), func(s *api.PdState) { s.Siren, s.Squibs = 0, []int{1, 1} })
	is := func(squib, n int) func(s *api.PdState) { return func(s *api.PdState) { s.Squibs[squib] = n } }
	half := func(n int) api.PdState { return with(armed, is(motor, n)) }
	runActs(t, example(), []doCase{
		done(armed, act(5, api.PdDisarm, ann, motor), is(motor, 0)), done(armed, act(5, api.PdDisarm, eve, motor), is(motor, 0)), done(armed, act(5, api.PdDisarm, bob, chute), is(chute, 0)),
		refused(with(armed, zones(0, 1, 0)), act(5, api.PdDisarm, bob, motor), api.PdErrFar), refused(with(half(0), zones(0, 1, 0)), act(5, api.PdDisarm, bob, motor), api.PdErrFar),
		refused(half(0), act(5, api.PdDisarm, ann, motor), api.PdErrState), refused(half(2), act(5, api.PdDisarm, ann, motor), api.PdErrState), done(half(2), act(5, api.PdDisarm, ann, chute), is(chute, 0)),
		done(armed, act(5, api.PdFire, ann, motor), is(motor, 2)), done(armed, act(0, api.PdFire, ann, chute), is(chute, 2)),
		refused(with(half(0), zones(1, 1, 1)), act(5, api.PdFire, bob, motor), api.PdErrFar), refused(with(armed, zones(1, 0, 0)), act(5, api.PdFire, ann, motor), api.PdErrFar),
		refused(half(0), act(5, api.PdFire, bob, motor), api.PdErrBadge), refused(armed, act(5, api.PdFire, bob, motor), api.PdErrBadge), refused(armed, act(5, api.PdFire, bob, chute), api.PdErrBadge),
		refused(half(0), act(5, api.PdFire, ann, motor), api.PdErrState), refused(half(2), act(5, api.PdFire, ann, motor), api.PdErrState),
	})
	p := example()
	p.People[bob].Grade = 3
	runActs(t, p, []doCase{done(armed, act(5, api.PdFire, bob, chute), is(chute, 2)), refused(armed, act(5, api.PdFire, bob, motor), api.PdErrBadge)})
}

// P7.4: the siren.
func TestSound(t *testing.T) {
	siren := func(n int) func(s *api.PdState) { return func(s *api.PdState) { s.Siren = n } }
	quiet := with(in(0, 1, 0), func(s *api.PdState) { s.Now = 50 })
	loud := with(quiet, siren(7))
	armed := with(loud, func(s *api.PdState) { s.Squibs[chute] = 1 })
	runActs(t, example(), []doCase{
		done(quiet, act(50, api.PdSound, ann, 1), siren(50)), done(quiet, act(99, api.PdSound, eve, 1), siren(99)), done(with(quiet, storm), act(99, api.PdSound, eve, 1), siren(99)),
		done(loud, act(60, api.PdSound, ann, 0), siren(-1)), done(with(loud, gone(motor, chute)), act(60, api.PdSound, ann, 0), siren(-1)),
		refused(quiet, act(60, api.PdSound, bob, 1), api.PdErrFar), refused(loud, act(60, api.PdSound, bob, 0), api.PdErrFar), refused(quiet, act(60, api.PdSound, bob, 0), api.PdErrFar), refused(armed, act(60, api.PdSound, bob, 0), api.PdErrFar),
		refused(quiet, act(60, api.PdSound, ann, 0), api.PdErrState), refused(loud, act(60, api.PdSound, ann, 1), api.PdErrState), refused(armed, act(60, api.PdSound, ann, 1), api.PdErrState),
		refused(armed, act(60, api.PdSound, ann, 0), api.PdErrSiren), refused(with(armed, gone(motor)), act(60, api.PdSound, ann, 0), api.PdErrSiren),
	})
	// On from the tick 0 is on.
	runActs(t, example(), []doCase{done(in(0, 0, 0), act(0, api.PdSound, ann, 1), siren(0)), refused(with(in(0, 0, 0), siren(0)), act(0, api.PdSound, ann, 1), api.PdErrState), done(with(in(0, 0, 0), siren(0)), act(0, api.PdSound, ann, 0), siren(-1))})
}

// P7.4: storms, from anywhere.
func TestThunder(t *testing.T) {
	armed := with(in(0, 1, -1), func(s *api.PdState) { s.Siren, s.Squibs = 0, []int{1, 1} })
	stormy := with(armed, func(s *api.PdState) { s.Storm, s.Squibs = true, []int{2, 0} })
	runActs(t, example(), []doCase{
		done(armed, act(5, api.PdThunder, eve, 1), func(s *api.PdState) { s.Storm, s.Squibs = true, []int{0, 0} }),
		done(with(armed, gone(motor)), act(5, api.PdThunder, bob, 1), func(s *api.PdState) { s.Storm, s.Squibs = true, []int{2, 0} }),
		done(with(armed, func(s *api.PdState) { s.Squibs[motor] = 0 }), act(5, api.PdThunder, ann, 1), func(s *api.PdState) { s.Storm, s.Squibs = true, []int{0, 0} }),
		done(stormy, act(5, api.PdThunder, bob, 0), func(s *api.PdState) { s.Storm = false }),
		refused(armed, act(5, api.PdThunder, ann, 0), api.PdErrState), refused(stormy, act(5, api.PdThunder, ann, 1), api.PdErrState),
	})
}
