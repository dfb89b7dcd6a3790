package window_test

import (
	"math"
	"slices"
	"testing"

	"hangfire/api"
	"hangfire/window"
)

// The examples of Why and of Rights.
func TestExampleRights(t *testing.T) {
	for _, c := range []struct {
		sky    api.WiSky
		minute int
		l      []int
	}{
		{skyA(), 100, []int{south, north, guest}},
		{skyA(), 345, []int{north, guest}},
		{skyB(), 100, []int{guest}},
	} {
		if l := rightsOf(t, example(), first(), c.sky, c.minute); !slices.Equal(l, c.l) {
			t.Errorf("Rights with %v at %d = %v", c.sky, c.minute, l)
		}
	}
	for team, want := range map[int]api.Errno{south: api.WiErrWind, north: api.WiErrSky, guest: api.OK} {
		if why, e := window.Why(example(), first(), skyB(), team, 100); why != want || e != api.OK {
			t.Errorf("Why of %d = %d, %d", team, why, e)
		}
	}
}

// P11.3: teams and minutes that are none.
func TestRightsErrors(t *testing.T) {
	for _, team := range []int{-1, 3, math.MinInt, math.MaxInt} {
		for _, minute := range []int{100, 99, math.MinInt} {
			if why, e := window.Why(example(), first(), skyA(), team, minute); why != 0 || e != api.ErrNone {
				t.Errorf("Why of %d at %d = %d, %d", team, minute, why, e)
			}
		}
	}
	for minute, want := range map[int]api.Errno{99: api.ErrRange, 100: api.OK, 400: api.OK, 401: api.ErrRange, -1: api.ErrRange, math.MinInt: api.ErrRange, math.MaxInt: api.ErrRange} {
		l, e := window.Rights(example(), first(), skyA(), minute)
		if e != want || e != api.OK && len(l) != 0 {
			t.Errorf("Rights at %d = %v, %d", minute, l, e)
		}
		if why, e := window.Why(example(), first(), skyA(), north, minute); e != want || e != api.OK && why != 0 {
			t.Errorf("Why at %d = %d, %d", minute, why, e)
		}
	}
	// The minutes are those of the next window.
	s := with(func(s *api.WiState) { s.Next = 2 })
	for minute, want := range map[int]api.Errno{-1: api.ErrRange, 0: api.OK, 60: api.OK, 61: api.ErrRange, 100: api.ErrRange} {
		if l, e := window.Rights(example(), s, skyA(), minute); e != want {
			t.Errorf("Rights at %d = %v, %d", minute, l, e)
		}
	}
}

// whyCase is a change of a plan, of its state at first, and of a sky, and why the first team has no right then.
type whyCase struct {
	change func(team *api.WiTeam, s *api.WiState, sky *api.WiSky)
	why    api.Errno
}

// runWhys tells of a team in a window of the day 50, from 100 to 200, at the minute 150; it has a right without the change.
func runWhys(t *testing.T, l []whyCase) {
	t.Helper()
	for i, c := range l {
		p := plain(2, 1)
		p.Windows[0] = api.WiWindow{Day: 50, From: 100, Until: 200}
		s, sky := startOf(t, p), api.WiSky{}
		c.change(&p.Teams[0], &s, &sky)
		if why, e := window.Why(p, s, sky, 0, 150); why != c.why || e != api.OK {
			t.Errorf("%d: Why = %d, %d, and not %d", i, why, e, c.why)
		}
		has := slices.Contains(rightsOf(t, p, s, sky, 150), 0)
		if has != (c.why == api.OK) {
			t.Errorf("%d: in Rights: %t", i, has)
		}
	}
}

// P11.3: each of the reasons.
func TestReasons(t *testing.T) {
	need := func(used, need int) func(*api.WiTeam, *api.WiState, *api.WiSky) {
		return func(team *api.WiTeam, s *api.WiState, sky *api.WiSky) { s.Used[0], team.Need = used, need }
	}
	away := func(l ...api.Span) func(*api.WiTeam, *api.WiState, *api.WiSky) {
		return func(team *api.WiTeam, s *api.WiState, sky *api.WiSky) { team.Away = l }
	}
	rest := func(last, rest int) func(*api.WiTeam, *api.WiState, *api.WiSky) {
		return func(team *api.WiTeam, s *api.WiState, sky *api.WiSky) { s.Last[0], team.Rest = last, rest }
	}
	kinds := func(team, sky []int) func(*api.WiTeam, *api.WiState, *api.WiSky) {
		return func(x *api.WiTeam, s *api.WiState, y *api.WiSky) { x.Kinds, y.Kinds = team, sky }
	}
	wind := func(team, sky int) func(*api.WiTeam, *api.WiState, *api.WiSky) {
		return func(x *api.WiTeam, s *api.WiState, y *api.WiSky) { x.Wind, y.Wind = team, sky }
	}
	setup := func(n int) func(*api.WiTeam, *api.WiState, *api.WiSky) {
		return func(team *api.WiTeam, s *api.WiState, sky *api.WiSky) { team.Setup = n }
	}
	runWhys(t, []whyCase{
		{need(0, 1), api.OK}, {need(0, 0), api.WiErrNeed}, {need(2, 3), api.OK}, {need(3, 3), api.WiErrNeed}, {need(4, 3), api.WiErrNeed}, {need(100, 100), api.WiErrNeed}, {need(99, 100), api.OK},
		{away(span(49, 49), span(51, 51)), api.OK}, {away(span(50, 50)), api.WiErrAway}, {away(span(0, 3), span(45, 50)), api.WiErrAway}, {away(span(50, 60)), api.WiErrAway}, {away(span(10, 60), span(70, 80)), api.WiErrAway}, {away(span(0, 49)), api.OK}, {away(span(51, 60)), api.OK},
		{rest(none, 100), api.OK}, {rest(48, 2), api.OK}, {rest(49, 2), api.WiErrRest}, {rest(50, 0), api.OK}, {rest(50, 1), api.WiErrRest}, {rest(0, 50), api.OK}, {rest(0, 51), api.WiErrRest},
		// A last launch after the window: the difference is below 0.
		{rest(51, 0), api.WiErrRest}, {rest(3650, 100), api.WiErrRest},
		{kinds(nil, nil), api.OK}, {kinds(nil, []int{1}), api.OK}, {kinds([]int{1}, nil), api.WiErrSky}, {kinds([]int{1}, []int{1}), api.OK}, {kinds([]int{1, 4}, []int{0, 2, 3}), api.WiErrSky}, {kinds([]int{1, 4}, []int{0, 4}), api.OK}, {kinds([]int{1, 4}, []int{1, 3}), api.OK}, {kinds([]int{0}, []int{9}), api.WiErrSky},
		{wind(7, 7), api.OK}, {wind(7, 8), api.WiErrWind}, {wind(0, 0), api.OK}, {wind(0, 1), api.WiErrWind}, {wind(1000, 1000), api.OK},
		{setup(49), api.OK}, {setup(50), api.OK}, {setup(51), api.WiErrTime}, {setup(1440), api.WiErrTime},
	})
}

// P11.3: the first reason is why.
func TestFirstReason(t *testing.T) {
	faults := []func(team *api.WiTeam, s *api.WiState, sky *api.WiSky){
		func(team *api.WiTeam, s *api.WiState, sky *api.WiSky) { team.Need = 0 },
		func(team *api.WiTeam, s *api.WiState, sky *api.WiSky) { team.Away = []api.Span{span(50, 50)} },
		func(team *api.WiTeam, s *api.WiState, sky *api.WiSky) { team.Rest, s.Last[0] = 1, 50 },
		func(team *api.WiTeam, s *api.WiState, sky *api.WiSky) { team.Kinds = []int{0} },
		func(team *api.WiTeam, s *api.WiState, sky *api.WiSky) { team.Wind, sky.Wind = 1, 2 },
		func(team *api.WiTeam, s *api.WiState, sky *api.WiSky) { team.Setup = 100 },
	}
	reasons := []api.Errno{api.WiErrNeed, api.WiErrAway, api.WiErrRest, api.WiErrSky, api.WiErrWind, api.WiErrTime}
	for i, why := range reasons {
		runWhys(t, []whyCase{
			{faults[i], why},
			{func(team *api.WiTeam, s *api.WiState, sky *api.WiSky) {
				for _, fault := range faults[i:] {
					fault(team, s, sky)
				}
			}, why},
		})
	}
}

// P11.3: the order of teams: each number decides where those before it are equal, whatever those behind it are.
func TestOrder(t *testing.T) {
	type rank struct{ priority, credit, used, last int }
	for i, c := range []struct {
		ranks []rank
		want  []int
	}{
		{[]rank{{5, 0, 0, none}, {5, 0, 0, none}, {5, 0, 0, none}}, []int{0, 1, 2}},
		{[]rank{{1, 9, 0, none}, {2, 0, 9, 40}, {9, -9, 9, 49}}, []int{2, 1, 0}},
		{[]rank{{5, -1, 0, none}, {5, 0, 9, 40}, {5, 1, 10, 41}}, []int{2, 1, 0}},
		{[]rank{{5, 7, 2, none}, {5, 7, 1, 40}, {5, 7, 0, 41}}, []int{2, 1, 0}},
		{[]rank{{5, 7, 2, 41}, {5, 7, 2, 40}, {5, 7, 2, none}}, []int{2, 1, 0}},
		{[]rank{{5, 7, 2, 41}, {5, 7, 2, 40}, {5, 7, 2, 40}}, []int{1, 2, 0}},
		{[]rank{{5, 7, 2, 41}, {5, 7, 3, none}, {5, 8, 9, 49}, {4, 99, 0, none}, {6, -99, 99, 49}}, []int{4, 2, 0, 1, 3}},
		{[]rank{{3, 0, 0, 7}, {3, 0, 0, 3}, {3, 0, 0, 7}, {3, 0, 0, 3}, {3, 0, 0, 5}, {3, 0, 0, none}, {3, 0, 0, 9}, {3, 0, 0, 0}}, []int{5, 7, 1, 3, 4, 0, 2, 6}},
	} {
		p := plain(len(c.ranks), 1)
		p.Windows[0].Day = 50
		s := startOf(t, p)
		for team, x := range c.ranks {
			p.Teams[team].Priority = x.priority
			s.Credit[team], s.Used[team], s.Last[team] = x.credit, x.used, x.last
		}
		if l := rightsOf(t, p, s, api.WiSky{}, 0); !slices.Equal(l, c.want) {
			t.Errorf("%d: Rights = %v, and not %v", i, l, c.want)
		}
		if team, _, to := turnsOf(t, p, s, api.WiSky{}, nil); team != c.want[0] || !slices.Equal(to, c.want[1:]) {
			t.Errorf("%d: Turns = %d, to %v, and not %v", i, team, to, c.want)
		}
	}
	// The credit is that of the state, and not that of the team at first.
	s := with(func(s *api.WiState) { s.Credit = []int{13, 12, 0} })
	if l := rightsOf(t, example(), s, skyA(), 100); !slices.Equal(l, []int{north, south, guest}) {
		t.Errorf("Rights = %v", l)
	}
}

// P11.3: rights are those to the next window, with its day and its minutes.
func TestNextWindow(t *testing.T) {
	for _, c := range []struct {
		next, minute int
		l            []int
	}{
		{0, 100, []int{south, north, guest}},
		{1, 100, []int{south, north, guest}},
		{1, 141, []int{north, guest}},
		{1, 171, []int{guest}},
		{1, 181, nil},
		{2, 0, []int{south, north}},
		{2, 1, []int{north}},
		{2, 31, nil},
	} {
		s := with(func(s *api.WiState) { s.Next = c.next })
		if l := rightsOf(t, example(), s, skyA(), c.minute); !slices.Equal(l, c.l) {
			t.Errorf("Rights of the window %d at %d = %v, and not %v", c.next, c.minute, l, c.l)
		}
	}
}
