package pad_test

import (
	"slices"
	"testing"

	"hangfire/api"
	"hangfire/pad"
)

// morning is the acts of the chapter's examples.
func morning() []api.PdAct {
	return []api.PdAct{
		move(0, ann, bunker, bob),
		act(1, api.PdTake, ann, red),
		act(1, api.PdTake, bob, blue),
		move(2, ann, road, bob),
		move(3, ann, rail, bob),
		alone(4, eve, bunker),
		act(4, api.PdTake, eve, grey),
		act(5, api.PdSound, eve, 1),
		act(6, api.PdArm, eve, motor),
	}
}

// play plays acts, and checks why they are refused.
func play(t *testing.T, s api.PdState, l []api.PdAct, want ...api.Errno) api.PdState {
	t.Helper()
	after, why, e := pad.Play(example(), s, l)
	if !slices.Equal(why, want) || e != api.OK {
		t.Errorf("Play = %v, %d, and not %v", why, e, want)
	}
	return after
}

// nothing checks that nobody is near an armed squib, and which keys are owed.
func nothing(t *testing.T, s api.PdState, motorOwes, chuteOwes []int) {
	t.Helper()
	danger, e := pad.Danger(example(), s)
	a, f := pad.Owed(example(), s, motor)
	b, g := pad.Owed(example(), s, chute)
	if len(danger) > 0 || !slices.Equal(a, motorOwes) || !slices.Equal(b, chuteOwes) || e != api.OK || f != api.OK || g != api.OK {
		t.Errorf("%v, %v, %v; %d, %d, %d", danger, a, b, e, f, g)
	}
}

// P7.5: the examples of the chapter.
func TestExamples(t *testing.T) {
	s := play(t, first(), morning(), api.OK, api.OK, api.OK, api.OK, api.PdErrKey, api.OK, api.OK, api.OK, api.PdErrBadge)
	if !sameState(s, api.PdState{Now: 5, Zones: []int{1, 1, 0}, Holder: []int{0, 1, 2}, Squibs: []int{0, 0}, Siren: 5}) {
		t.Errorf("%v", s)
	}
	if after, e := pad.Do(example(), s, alone(6, ann, rail)); !isZero(after) || e != api.PdErrKey {
		t.Errorf("ann alone to the rail: %v, %d", after, e)
	}
	nothing(t, s, []int{red, blue}, []int{grey})
	s = play(t, s, []api.PdAct{move(10, ann, bunker, bob), act(11, api.PdPut, ann, red), act(11, api.PdPut, bob, blue), act(104, api.PdArm, ann, motor), act(105, api.PdArm, ann, motor), act(105, api.PdArm, ann, chute)},
		api.OK, api.OK, api.OK, api.PdErrSiren, api.OK, api.PdErrKey)
	nothing(t, s, nil, []int{grey})
	s = play(t, s, []api.PdAct{alone(106, eve, road), alone(107, eve, rail), alone(108, eve, bunker), act(108, api.PdTake, eve, red)}, api.OK, api.PdErrBadge, api.OK, api.PdErrState)
	s = play(t, s, []api.PdAct{act(109, api.PdThunder, eve, 1)}, api.OK)
	if s.Squibs[motor] != api.PdSafe || !s.Storm {
		t.Errorf("%v", s)
	}
	s = play(t, s, []api.PdAct{act(110, api.PdSound, eve, 0), act(111, api.PdArm, ann, motor)}, api.OK, api.PdErrStorm)
	if !sameState(s, api.PdState{Now: 110, Zones: []int{0, 0, 0}, Holder: []int{-1, -1, 2}, Squibs: []int{0, 0}, Siren: -1, Storm: true}) {
		t.Errorf("%v", s)
	}
}

// P7.5: an act that is refused changes nothing, not even the tick.
func TestPlayRefused(t *testing.T) {
	s := play(t, first(), []api.PdAct{alone(5, ann, bunker), alone(9, ann, rail), act(7, api.PdTake, ann, red), act(6, api.PdTake, ann, blue)}, api.OK, api.PdErrFar, api.OK, api.PdErrTime)
	if !sameState(s, api.PdState{Now: 7, Zones: []int{0, -1, -1}, Holder: []int{0, -1, -1}, Squibs: []int{0, 0}, Siren: -1}) {
		t.Errorf("%v", s)
	}
	s = play(t, s, []api.PdAct{alone(7, ann, rail), alone(6, bob, bunker)}, api.PdErrFar, api.PdErrTime)
	if s.Now != 7 {
		t.Errorf("%v", s)
	}
	for _, l := range [][]api.PdAct{nil, {}} {
		if after := play(t, s, l); !sameState(after, s) {
			t.Errorf("%v and not %v", after, s)
		}
	}
}

// P7.5: how many acts there may be, and acts with an error.
func TestPlayErrors(t *testing.T) {
	acts := func(n int) []api.PdAct { return slices.Repeat([]api.PdAct{act(3, api.PdThunder, ann, 0)}, n) }
	if after, why, e := pad.Play(example(), first(), acts(60)); !sameState(after, first()) || !slices.Equal(why, slices.Repeat([]api.Errno{api.PdErrState}, 60)) || e != api.OK {
		t.Errorf("Play = %v, %v, %d", after, why, e)
	}
	bad := func(l []api.PdAct, at int, a api.PdAct) []api.PdAct { l[at] = a; return l }
	for i, c := range []struct {
		l []api.PdAct
		e api.Errno
	}{
		{acts(61), api.ErrLong}, {bad(acts(61), 0, api.PdAct{At: -1}), api.ErrLong},
		{bad(acts(60), 59, api.PdAct{At: -1}), api.ErrRange}, {bad(acts(60), 59, api.PdAct{}), api.ErrArg}, {bad(acts(60), 59, alone(5, 3, 0)), api.ErrNone},
		// The first act with an error decides, whichever error it is.
		{bad(bad(acts(3), 1, alone(0, -1, 0)), 2, api.PdAct{At: -1}), api.ErrNone}, {bad(bad(acts(3), 1, api.PdAct{}), 2, api.PdAct{At: -1}), api.ErrArg},
		// One that is refused before it does not.
		{[]api.PdAct{alone(0, ann, rail), move(0, ann, rail, ann)}, api.ErrArg},
	} {
		if after, why, e := pad.Play(example(), first(), c.l); !isZero(after) || len(why) > 0 || e != c.e {
			t.Errorf("%d: Play = %v, %v, %d", i, after, why, e)
		}
	}
}
