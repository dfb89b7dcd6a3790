package window_test

import (
	"math"
	"slices"
	"testing"

	"hangfire/api"
	"hangfire/window"
)

// turnsCase is turns of the first window of the plan P, with the sky A, and what Turns returns after them.
type turnsCase struct {
	l            []api.WiTurn
	team, minute int
	to           []int
}

func runTurns(t *testing.T, p api.WiPlan, sky api.WiSky, l []turnsCase) {
	t.Helper()
	for i, c := range l {
		team, minute, to := turnsOf(t, p, startOf(t, p), sky, c.l)
		if team != c.team || minute != c.minute || !slices.Equal(to, c.to) {
			t.Errorf("%d: Turns after %v = %d, %d, to %v, and not %d, %d, to %v", i, c.l, team, minute, to, c.team, c.minute, c.to)
		}
		if _, _, e := window.Play(p, startOf(t, p), night(sky, c.l...)); (e == api.OK) != (c.team == none) || e != api.OK && e != api.ErrArg {
			t.Errorf("%d: Play of %v = %d", i, c.l, e)
		}
	}
}

// The examples of Turns, and P11.4: what can happen next.
func TestTurns(t *testing.T) {
	runTurns(t, example(), skyA(), []turnsCase{
		{nil, south, 100, []int{north, guest}},
		{turns(scrubbed(350)), north, 350, []int{guest}},
		{turns(scrubbed(100)), north, 100, []int{guest}},
		{turns(scrubbed(370)), north, 370, []int{guest}},
		{turns(scrubbed(371)), guest, 371, nil},
		{turns(scrubbed(381)), none, 381, nil},
		{turns(scrubbed(400)), none, 400, nil},
		{turns(scrubbed(350), scrubbed(360)), guest, 360, nil},
		{turns(scrubbed(350), scrubbed(360), scrubbed(370)), none, 370, nil},
		{turns(launched(160)), none, 160, nil},
		{turns(launched(400)), none, 400, nil},
		{turns(scrubbed(350), launched(380)), none, 380, nil},
		{turns(scrubbed(350), launched(400)), none, 400, nil},
		// The turn is given to one that cannot give it again; then it is that of the first one of the others.
		{turns(given(100, guest)), guest, 100, nil},
		{turns(given(100, north)), north, 100, nil},
		{turns(given(100, guest), scrubbed(200)), north, 200, nil},
		{turns(given(100, north), scrubbed(200)), guest, 200, nil},
		{turns(given(100, guest), scrubbed(371)), none, 371, nil},
		{turns(given(100, guest), launched(120)), none, 120, nil},
		{turns(scrubbed(200), given(200, guest)), guest, 200, nil},
		{turns(scrubbed(200), given(200, guest), scrubbed(400)), none, 400, nil},
	})
	runTurns(t, example(), skyB(), []turnsCase{
		{nil, guest, 100, nil},
		{turns(scrubbed(390)), none, 390, nil},
		{turns(launched(120)), none, 120, nil},
	})
	// Nobody has a right, from the beginning.
	runTurns(t, example(), api.WiSky{Wind: 301}, []turnsCase{{nil, none, 100, nil}})
}

// P11.4: after a turn that was given to it has ended without a launch, the next team can give its own.
func TestGivenTwice(t *testing.T) {
	sky := api.WiSky{}
	runTurns(t, plain(5, 1), sky, []turnsCase{
		{nil, 0, 0, []int{1, 2, 3, 4}},
		{turns(given(0, 3)), 3, 0, nil},
		{turns(given(0, 3), scrubbed(5)), 1, 5, []int{2, 4}},
		{turns(given(0, 3), scrubbed(5), given(5, 4)), 4, 5, nil},
		{turns(given(0, 3), scrubbed(5), given(5, 4), scrubbed(5)), 2, 5, nil},
		{turns(given(0, 3), scrubbed(5), given(5, 4), scrubbed(90)), 2, 90, nil},
		{turns(given(0, 3), scrubbed(5), given(5, 4), scrubbed(91)), none, 91, nil},
		{turns(given(0, 3), scrubbed(5), given(5, 4), scrubbed(90), launched(100)), none, 100, nil},
	})
}

// P11.4: the order is that of the credits by then.
func TestOrderByThen(t *testing.T) {
	p := plain(5, 1)
	for i, credit := range []int{12, 10, 10, 10, 9} {
		p.Teams[i].Credit = credit
	}
	// 2 has paid for its turn, and had it; what 0 has got changes nothing any more.
	runTurns(t, p, api.WiSky{}, []turnsCase{{turns(given(0, 2), scrubbed(1)), 1, 1, []int{3, 4}}})
	// The gift of a turn moves 3, which has had it, but none of those that wait.
	s := startOf(t, p)
	after, _ := playOf(t, p, s, night(api.WiSky{}, given(0, 3), scrubbed(0), given(0, 4), scrubbed(0), launched(50)))
	if want := (api.WiState{Used: []int{0, 0, 1, 0, 0}, Credit: []int{16, 14, 3, 6, 5}, Last: []int{none, none, 0, none, none}, Next: 1}); !sameState(after, want) {
		t.Errorf("%v, and not %v", after, want)
	}
	// In the next window it is the order of these.
	p.Windows = plain(1, 2).Windows
	if l := rightsOf(t, p, after, api.WiSky{}, 0); !slices.Equal(l, []int{0, 1, 3, 4, 2}) {
		t.Errorf("Rights = %v", l)
	}
}

// errorCase is turns of the first window of the plan P, with the sky A, and the error of Turns and Play.
type errorCase struct {
	l []api.WiTurn
	e api.Errno
}

func runErrors(t *testing.T, p api.WiPlan, sky api.WiSky, l []errorCase) {
	t.Helper()
	for i, c := range l {
		s := startOf(t, p)
		if team, minute, to, e := window.Turns(p, s, sky, c.l); e != c.e || e != api.OK && (team != 0 || minute != 0 || len(to) != 0) {
			t.Errorf("%d: Turns after %v = %d, %d, to %v, %d, and not %d", i, c.l, team, minute, to, e, c.e)
		}
		after, use, e := window.Play(p, s, night(sky, c.l...))
		if e != c.e && !(c.e == api.OK && e == api.ErrArg) || e != api.OK && (!isZero(after) || use != api.WiUse{}) {
			t.Errorf("%d: Play of %v = %v, %v, %d, and not %d", i, c.l, after, use, e, c.e)
		}
	}
}

// P11.4: turns that are not as stated.
func TestTurnErrors(t *testing.T) {
	kind := func(what, at, to int) []api.WiTurn { return turns(api.WiTurn{What: what, At: at, To: to}) }
	runErrors(t, example(), skyA(), []errorCase{
		// South is the first one, with the Setup 60.
		{turns(launched(160)), api.OK}, {turns(launched(159)), api.ErrRange}, {turns(launched(400)), api.OK}, {turns(launched(401)), api.ErrRange}, {turns(launched(math.MinInt)), api.ErrRange}, {turns(launched(math.MaxInt)), api.ErrRange},
		{kind(api.WiLaunched, 160, 1), api.ErrRange}, {kind(api.WiLaunched, 160, -1), api.ErrRange}, {kind(api.WiLaunched, 160, 9), api.ErrRange},
		{turns(scrubbed(100)), api.OK}, {turns(scrubbed(99)), api.ErrRange}, {turns(scrubbed(400)), api.OK}, {turns(scrubbed(401)), api.ErrRange}, {turns(scrubbed(math.MinInt)), api.ErrRange}, {turns(scrubbed(math.MaxInt)), api.ErrRange},
		{kind(api.WiScrubbed, 100, 2), api.ErrRange}, {kind(api.WiScrubbed, 100, -1), api.ErrRange},
		{turns(given(100, north)), api.OK}, {turns(given(99, north)), api.ErrRange}, {turns(given(101, north)), api.ErrRange},
		{turns(given(100, south)), api.ErrNone}, {turns(given(100, 3)), api.ErrNone}, {turns(given(100, -1)), api.ErrNone}, {turns(given(100, math.MinInt)), api.ErrNone}, {turns(given(100, math.MaxInt)), api.ErrNone}, {turns(given(101, 3)), api.ErrNone},
		{kind(0, 100, 0), api.ErrArg}, {kind(4, 100, 0), api.ErrArg}, {kind(-1, 0, 9), api.ErrArg}, {kind(math.MinInt, 0, 0), api.ErrArg}, {kind(math.MaxInt, 0, 0), api.ErrArg},
	})
	runErrors(t, example(), skyA(), []errorCase{
		// At a later minute.
		{turns(scrubbed(350), scrubbed(349)), api.ErrRange}, {turns(scrubbed(350), launched(379)), api.ErrRange}, {turns(scrubbed(350), launched(380)), api.OK}, {turns(scrubbed(350), given(349, guest)), api.ErrRange}, {turns(scrubbed(350), given(350, guest)), api.OK},
		// To one that has had its turn, or has no right any more.
		{turns(scrubbed(350), given(350, south)), api.ErrNone}, {turns(scrubbed(350), given(350, north)), api.ErrNone}, {turns(scrubbed(100), given(100, guest), scrubbed(371)), api.OK},
		// A turn that was given is not given again, to whomever.
		{turns(given(100, north), given(100, guest)), api.ErrTwice}, {turns(given(100, north), given(99, south)), api.ErrTwice}, {turns(given(100, north), given(100, 7)), api.ErrTwice}, {turns(given(100, guest), scrubbed(100), given(100, south)), api.ErrNone},
		// The window is over.
		{turns(launched(160), scrubbed(160)), api.ErrDown}, {turns(launched(160), launched(400)), api.ErrDown}, {turns(launched(160), given(160, guest)), api.ErrDown}, {append(turns(launched(160)), kind(7, 0, 0)...), api.ErrDown},
		{turns(scrubbed(400), scrubbed(400)), api.ErrDown}, {turns(given(100, guest), launched(120), launched(200)), api.ErrDown},
		// The first turn with an error decides.
		{append(turns(scrubbed(99)), kind(7, 0, 0)...), api.ErrRange}, {append(kind(7, 0, 0), scrubbed(99)), api.ErrArg},
	})
	// The launch of one to which the turn was given takes its own Setup.
	runErrors(t, example(), skyA(), []errorCase{{turns(given(100, guest), launched(119)), api.ErrRange}, {turns(given(100, guest), launched(120)), api.OK}})
	// One without a right at the minute: south, when it is late; everybody else with B.
	q := changed(func(p *api.WiPlan) { p.Teams[north].Priority = 6 })
	runErrors(t, q, skyA(), []errorCase{{turns(given(100, south)), api.OK}})
	q.Windows[0].Until = 159
	runErrors(t, q, skyA(), []errorCase{{turns(given(100, south)), api.ErrNone}, {turns(given(100, guest)), api.OK}})
	runErrors(t, example(), skyB(), []errorCase{{turns(given(100, north)), api.ErrNone}, {turns(given(100, south)), api.ErrNone}})
	runErrors(t, example(), api.WiSky{Wind: 301}, []errorCase{{turns(scrubbed(100)), api.ErrDown}, {kind(7, 0, 0), api.ErrDown}})
}

// P11.4: how many turns there may be.
func TestManyTurns(t *testing.T) {
	scrubs := func(n int) []api.WiTurn { return slices.Repeat(turns(scrubbed(0)), n) }
	faulty := func(n int) []api.WiTurn { return slices.Repeat(turns(api.WiTurn{}), n) }
	runErrors(t, plain(8, 1), api.WiSky{}, []errorCase{
		{scrubs(8), api.OK},
		{scrubs(9), api.ErrDown},
		{scrubs(16), api.ErrDown},
		{scrubs(17), api.ErrLong},
		{faulty(16), api.ErrArg},
		{faulty(17), api.ErrLong},
	})
	runTurns(t, plain(8, 1), api.WiSky{}, []turnsCase{{scrubs(7), 7, 0, nil}, {scrubs(8), none, 0, nil}})
}

// playCase is a night of the first window of the plan P, and what Play returns.
type playCase struct {
	n            api.WiNight
	used, credit []int
	last         []int
	use          api.WiUse
}

// The examples of Play, and P11.4: the state after a window, and its use.
func TestPlay(t *testing.T) {
	no := []int{none, none, none}
	for i, c := range []playCase{
		{night(skyA(), launched(160)), []int{0, 1, 0}, []int{11, 7, 1}, []int{none, 1, none}, use(0, south, 160, none)},
		{night(skyA(), given(100, guest), launched(120)), []int{0, 0, 1}, []int{11, 15, -8}, []int{none, none, 1}, use(0, guest, 120, south)},
		{night(skyA(), given(100, north), launched(130)), []int{1, 0, 0}, []int{2, 15, 1}, []int{1, none, none}, use(0, north, 130, south)},
		// South has had its turn; guest has a right at the minute, also if not at that of the launch.
		{night(skyA(), scrubbed(350), launched(400)), []int{1, 0, 0}, []int{5, 12, 1}, []int{1, none, none}, use(0, north, 400, none)},
		// The turn of guest at 375 is too late for north, which has not had its own.
		{night(skyA(), scrubbed(375), launched(395)), []int{0, 0, 1}, []int{10, 12, -5}, []int{none, none, 1}, use(0, guest, 395, none)},
		{night(skyA(), scrubbed(350), given(350, guest), launched(370)), []int{0, 0, 1}, []int{13, 12, -8}, []int{none, none, 1}, use(0, guest, 370, north)},
		{night(skyA(), given(100, north), scrubbed(100), launched(120)), []int{0, 0, 1}, []int{7, 15, -5}, []int{none, none, 1}, use(0, guest, 120, none)},
		{night(skyA(), scrubbed(400)), []int{0, 0, 0}, []int{10, 12, 0}, no, use(0, none, 0, none)},
		{night(skyA(), given(100, guest), scrubbed(400)), []int{0, 0, 0}, []int{10, 15, -3}, no, use(0, none, 0, none)},
		{night(skyB(), scrubbed(390)), []int{0, 0, 0}, []int{10, 12, 0}, no, use(0, none, 0, none)},
		{night(skyB(), launched(400)), []int{0, 0, 1}, []int{10, 12, -5}, []int{none, none, 1}, use(0, guest, 400, none)},
		{night(api.WiSky{Wind: 301}), []int{0, 0, 0}, []int{10, 12, 0}, no, use(0, none, 0, none)},
	} {
		after, use := playOf(t, example(), first(), c.n)
		if want := (api.WiState{Used: c.used, Credit: c.credit, Last: c.last, Next: 1}); !sameState(after, want) || use != c.use {
			t.Errorf("%d: Play of %v = %v, %v, and not %v, %v", i, c.n, after, use, want, c.use)
		}
	}
}

// P11.4: a window that is not over, and one that is not the first.
func TestPlayOther(t *testing.T) {
	for _, l := range [][]api.WiTurn{nil, turns(scrubbed(350)), turns(given(100, guest)), turns(scrubbed(350), scrubbed(360))} {
		if after, use, e := window.Play(example(), first(), night(skyA(), l...)); e != api.ErrArg || !isZero(after) || use != (api.WiUse{}) {
			t.Errorf("Play of %v = %v, %v, %d", l, after, use, e)
		}
	}
	s := api.WiState{Used: []int{1, 1, 1}, Credit: []int{-100000, 200000, 3}, Last: []int{0, 1, 2}, Next: 1}
	after, u := playOf(t, example(), s, night(skyA(), launched(160)))
	if want := (api.WiState{Used: []int{1, 2, 1}, Credit: []int{-99999, 199995, 3}, Last: []int{0, 2, 2}, Next: 2}); !sameState(after, want) || u != use(1, south, 160, none) {
		t.Errorf("Play = %v, %v", after, u)
	}
	// Credits may get beyond the numbers of a state.
	s.Credit = []int{200000, -100000, 0}
	after, u = playOf(t, example(), s, night(skyA(), given(100, south), launched(160)))
	if !slices.Equal(after.Credit, []int{200003, -100008, 0}) || u != use(1, south, 160, north) || window.CheckState(example(), after) != api.ErrRange {
		t.Errorf("Play = %v, %v", after, u)
	}
}
