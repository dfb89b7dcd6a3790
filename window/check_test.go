package window_test

import (
	"math"
	"slices"
	"strings"
	"testing"

	"hangfire/api"
	"hangfire/window"
)

// everyError returns the errors of all functions but Check, with other arguments that are not valid either.
func everyError(p api.WiPlan) []api.Errno {
	nights := make([]api.WiNight, 61)
	_, a := window.Start(p)
	_, _, b := window.Season(p, nights)
	_, c := window.Audit(p, nights, nil)
	return append([]api.Errno{a, b, c}, stateErrors(p, api.WiState{Next: -1})...)
}

// stateErrors returns the errors of all functions with a state, with other arguments that are not valid.
func stateErrors(p api.WiPlan, s api.WiState) []api.Errno {
	return append([]api.Errno{window.CheckState(p, s)}, skyErrors(p, s, api.WiSky{Wind: -1})...)
}

// skyErrors returns the errors of all functions with a sky, with other arguments that are not valid.
func skyErrors(p api.WiPlan, s api.WiState, sky api.WiSky) []api.Errno {
	l := slices.Repeat(turns(launched(-1)), 17)
	_, a := window.Why(p, s, sky, -1, -1)
	_, b := window.Rights(p, s, sky, -1)
	_, _, _, c := window.Turns(p, s, sky, l)
	_, _, d := window.Play(p, s, api.WiNight{Sky: sky, Turns: l})
	return []api.Errno{a, b, c, d}
}

// planCase is a change of the plan P, and what Check returns of it.
type planCase struct {
	change   func(p *api.WiPlan)
	part, at int
	e        api.Errno
}

func runPlans(t *testing.T, l []planCase) {
	t.Helper()
	for i, c := range l {
		p := changed(c.change)
		if part, at, e := window.Check(p); part != c.part || at != c.at || e != c.e {
			t.Errorf("%d: Check of %v = %d, %d, %d, and not %d, %d, %d", i, p, part, at, e, c.part, c.at, c.e)
		}
		if c.e == api.OK {
			continue
		}
		for j, e := range everyError(p) {
			if e != c.e {
				t.Errorf("%d: the function %d returns %d, and not %d", i, j, e, c.e)
			}
		}
	}
}

// numberCases sets a number, which is from least to most, in all ways; if it is not as stated, the error is in a part, at an index.
func numberCases(least, most, part, at int, of func(p *api.WiPlan) *int) []planCase {
	set := func(n int) planCase {
		c := planCase{change: func(p *api.WiPlan) { *of(p) = n }}
		if n < least || n > most {
			c.part, c.at, c.e = part, at, api.ErrRange
		}
		return c
	}
	return []planCase{set(least), set(most), set(least - 1), set(most + 1), set(math.MinInt), set(math.MaxInt)}
}

// P11.1: numbers.
func TestCheckNumbers(t *testing.T) {
	runPlans(t, numberCases(0, 100, 1, 0, func(p *api.WiPlan) *int { return &p.Cost }))
	runPlans(t, numberCases(0, 100, 1, 0, func(p *api.WiPlan) *int { return &p.Gift }))
	for i := range 3 {
		team := func(p *api.WiPlan) *api.WiTeam { return &p.Teams[i] }
		runPlans(t, numberCases(1, 9, 2, i, func(p *api.WiPlan) *int { return &team(p).Priority }))
		runPlans(t, numberCases(0, 100, 2, i, func(p *api.WiPlan) *int { return &team(p).Need }))
		runPlans(t, numberCases(0, 100000, 2, i, func(p *api.WiPlan) *int { return &team(p).Credit }))
		runPlans(t, numberCases(0, 1000, 2, i, func(p *api.WiPlan) *int { return &team(p).Wind }))
		runPlans(t, numberCases(0, 100, 2, i, func(p *api.WiPlan) *int { return &team(p).Rest }))
		runPlans(t, numberCases(1, 1440, 2, i, func(p *api.WiPlan) *int { return &team(p).Setup }))
		// Without the other ones, so that it cannot come before or after them.
		alone := func(p *api.WiPlan) *api.WiWindow {
			p.Windows = p.Windows[i : i+1]
			return &p.Windows[0]
		}
		runPlans(t, numberCases(0, 3650, 3, 0, func(p *api.WiPlan) *int { return &alone(p).Day }))
		runPlans(t, numberCases(0, example().Windows[i].Until-1, 3, 0, func(p *api.WiPlan) *int { return &alone(p).From }))
		runPlans(t, numberCases(example().Windows[i].From+1, 1440, 3, 0, func(p *api.WiPlan) *int { return &alone(p).Until }))
	}
}

// P11.1: the teams, and their names.
func TestCheckTeams(t *testing.T) {
	teams := func(n int) func(p *api.WiPlan) { return func(p *api.WiPlan) { p.Teams = plain(n, 0).Teams } }
	name := func(i int, name string) func(p *api.WiPlan) { return func(p *api.WiPlan) { p.Teams[i].Name = name } }
	runPlans(t, []planCase{
		{func(p *api.WiPlan) {}, 0, 0, api.OK},
		{func(p *api.WiPlan) { *p = api.WiPlan{} }, 1, 0, api.ErrLong},
		{teams(0), 1, 0, api.ErrLong},
		{teams(1), 0, 0, api.OK},
		{teams(8), 0, 0, api.OK},
		{teams(9), 1, 0, api.ErrLong},
		{name(0, ""), 2, 0, api.ErrForm},
		{name(1, "South"), 2, 1, api.ErrForm},
		{name(1, "4"), 2, 1, api.ErrForm},
		{name(2, strings.Repeat("a", 24)), 0, 0, api.OK},
		{name(2, strings.Repeat("a", 25)), 2, 2, api.ErrForm},
		{name(0, "guest"), 2, 2, api.ErrTwice},
		{name(1, "north"), 2, 1, api.ErrTwice},
		{name(2, "south"), 2, 2, api.ErrTwice},
	})
}

// P11.1: kinds, and days on which teams are away.
func TestCheckLists(t *testing.T) {
	kinds := func(l ...int) func(p *api.WiPlan) { return func(p *api.WiPlan) { p.Teams[1].Kinds = l } }
	away := func(l ...api.Span) func(p *api.WiPlan) { return func(p *api.WiPlan) { p.Teams[1].Away = l } }
	many := func(n int) (l []api.Span) {
		for i := range n {
			l = append(l, span(i, i))
		}
		return l
	}
	runPlans(t, []planCase{
		{kinds(), 0, 0, api.OK},
		{kinds(0, 9), 0, 0, api.OK},
		{kinds(0, 1, 2, 3, 4, 5, 6, 7, 8, 9), 0, 0, api.OK},
		{kinds(0, 1, 2, 3, 4, 5, 6, 7, 8, 9, 10), 2, 1, api.ErrArg},
		{kinds(10), 2, 1, api.ErrArg},
		{kinds(-1), 2, 1, api.ErrArg},
		{kinds(-1, 3), 2, 1, api.ErrArg},
		{kinds(math.MinInt), 2, 1, api.ErrArg},
		{kinds(math.MaxInt), 2, 1, api.ErrArg},
		{kinds(3, 3), 2, 1, api.ErrArg},
		{kinds(1, 3, 2), 2, 1, api.ErrArg},
		{away(), 0, 0, api.OK},
		{away(span(0, 3650)), 0, 0, api.OK},
		{away(span(0, 0), span(1, 1), span(2, 5), span(3650, 3650)), 0, 0, api.OK},
		{away(span(-1, 3)), 2, 1, api.ErrArg},
		{away(span(-3, -1), span(2, 3)), 2, 1, api.ErrArg},
		{away(span(2, 3651)), 2, 1, api.ErrArg},
		{away(span(3651, 3651)), 2, 1, api.ErrArg},
		{away(span(3, 2)), 2, 1, api.ErrArg},
		{away(span(2, 4), span(4, 5)), 2, 1, api.ErrArg},
		{away(span(5, 6), span(2, 3)), 2, 1, api.ErrArg},
		{away(span(1, 2), span(4, 3)), 2, 1, api.ErrArg},
		{away(span(math.MinInt, math.MaxInt)), 2, 1, api.ErrArg},
		{away(span(0, math.MaxInt), span(0, 0)), 2, 1, api.ErrArg},
		{away(many(10)...), 0, 0, api.OK},
		{away(many(11)...), 2, 1, api.ErrLong},
	})
}

// P11.1: windows.
func TestCheckWindows(t *testing.T) {
	windows := func(l ...api.WiWindow) func(p *api.WiPlan) { return func(p *api.WiPlan) { p.Windows = l } }
	at := func(day, from, until int) api.WiWindow { return api.WiWindow{Day: day, From: from, Until: until} }
	runPlans(t, []planCase{
		{windows(), 0, 0, api.OK},
		{windows(at(0, 0, 1440), at(3650, 1439, 1440)), 0, 0, api.OK},
		{windows(at(0, 0, 0)), 3, 0, api.ErrRange},
		{windows(at(0, 5, 5)), 3, 0, api.ErrRange},
		{windows(at(0, 6, 5)), 3, 0, api.ErrRange},
		{windows(at(1, 5, 9), at(1, 9, 10), at(2, 0, 1)), 0, 0, api.OK},
		{windows(at(1, 5, 9), at(1, 8, 10)), 3, 1, api.ErrArg},
		{windows(at(1, 5, 9), at(1, 2, 5)), 3, 1, api.ErrArg},
		{windows(at(1, 5, 9), at(1, 5, 9)), 3, 1, api.ErrArg},
		{windows(at(0, 0, 1), at(2, 5, 9), at(1, 9, 10)), 3, 2, api.ErrArg},
		{windows(at(1, 5, 9), at(1, 8, 8)), 3, 1, api.ErrRange},
		{windows(at(1, 5, 9), at(0, 0, 1), at(7, 3, 2)), 3, 1, api.ErrArg},
		{windows(at(1, 5, 9), at(2, 0, 1441), at(0, 0, 1)), 3, 1, api.ErrRange},
		{func(p *api.WiPlan) { p.Windows = plain(1, 60).Windows }, 0, 0, api.OK},
		{func(p *api.WiPlan) { p.Windows = plain(1, 61).Windows }, 3, 0, api.ErrLong},
		{func(p *api.WiPlan) { p.Windows = make([]api.WiWindow, 61) }, 3, 0, api.ErrLong},
	})
}

// P11.1: which error comes first.
func TestCheckOrder(t *testing.T) {
	// What is wrong with a team, the first one first.
	faults := []func(t *api.WiTeam){
		func(t *api.WiTeam) { t.Name = "A" },
		func(t *api.WiTeam) { t.Name = "north" },
		func(t *api.WiTeam) { t.Setup = 0 },
		func(t *api.WiTeam) { t.Kinds = []int{10} },
		func(t *api.WiTeam) { t.Away = make([]api.Span, 11) },
		func(t *api.WiTeam) { t.Away = make([]api.Span, 2) },
	}
	errors := []api.Errno{api.ErrForm, api.ErrTwice, api.ErrRange, api.ErrArg, api.ErrLong, api.ErrArg}
	for i, e := range errors {
		runPlans(t, []planCase{{func(p *api.WiPlan) {
			for j := len(faults) - 1; j >= i; j-- {
				faults[j](&p.Teams[1])
			}
			p.Teams[2].Name = "A"
			p.Windows = make([]api.WiWindow, 61)
		}, 2, 1, e}})
	}
	runPlans(t, []planCase{
		{func(p *api.WiPlan) { p.Teams, p.Cost = make([]api.WiTeam, 9), -1 }, 1, 0, api.ErrLong},
		{func(p *api.WiPlan) { p.Teams, p.Gift = make([]api.WiTeam, 3), -1 }, 1, 0, api.ErrRange},
		{func(p *api.WiPlan) { p.Teams, p.Windows = make([]api.WiTeam, 3), make([]api.WiWindow, 61) }, 2, 0, api.ErrForm},
		{func(p *api.WiPlan) { p.Teams[0].Away, p.Teams[1].Name = []api.Span{{Lo: 1}}, "" }, 2, 0, api.ErrArg},
		{func(p *api.WiPlan) { p.Teams[2].Kinds, p.Windows[0].Day = []int{1, 0}, -1 }, 2, 2, api.ErrArg},
	})
}

// P11.2: Start.
func TestStart(t *testing.T) {
	if s := startOf(t, example()); !sameState(s, first()) {
		t.Errorf("Start = %v", s)
	}
	want := api.WiState{Used: make([]int, 8), Credit: []int{1000, 980, 960, 940, 920, 900, 880, 860}, Last: slices.Repeat([]int{none}, 8)}
	if s := startOf(t, plain(8, 0)); !sameState(s, want) {
		t.Errorf("Start = %v", s)
	}
}

// stateCase is a state of the plan P, and what CheckState returns of it.
type stateCase struct {
	s api.WiState
	e api.Errno
}

func runStates(t *testing.T, l []stateCase) {
	t.Helper()
	for i, c := range l {
		if e := window.CheckState(example(), c.s); e != c.e {
			t.Errorf("%d: CheckState of %v = %d, and not %d", i, c.s, e, c.e)
		}
		if c.e == api.OK {
			continue
		}
		for j, e := range stateErrors(example(), c.s) {
			if e != c.e {
				t.Errorf("%d: the function %d returns %d, and not %d", i, j, e, c.e)
			}
		}
	}
}

// P11.2: numbers of states.
func TestCheckStateNumbers(t *testing.T) {
	cases := func(least, most int, of func(s *api.WiState) *int) {
		t.Helper()
		for _, n := range []int{least, most, least - 1, most + 1, math.MinInt, math.MaxInt} {
			s := first()
			*of(&s) = n
			e := api.OK
			if n < least || n > most {
				e = api.ErrRange
			}
			runStates(t, []stateCase{{s, e}})
		}
	}
	for i := range 3 {
		cases(0, 100, func(s *api.WiState) *int { return &s.Used[i] })
		cases(-100000, 200000, func(s *api.WiState) *int { return &s.Credit[i] })
		cases(-1, 3650, func(s *api.WiState) *int { return &s.Last[i] })
	}
	cases(0, 3, func(s *api.WiState) *int { return &s.Next })
}

// P11.2: lists of states.
func TestCheckStateLists(t *testing.T) {
	runStates(t, []stateCase{
		{first(), api.OK},
		{api.WiState{}, api.ErrArg},
		{with(func(s *api.WiState) { s.Used = s.Used[:2] }), api.ErrArg},
		{with(func(s *api.WiState) { s.Credit = s.Credit[:2] }), api.ErrArg},
		{with(func(s *api.WiState) { s.Last = s.Last[:2] }), api.ErrArg},
		{with(func(s *api.WiState) { s.Used = append(s.Used, 0) }), api.ErrArg},
		{with(func(s *api.WiState) { s.Credit = append(s.Credit, 0) }), api.ErrArg},
		{with(func(s *api.WiState) { s.Last = append(s.Last, 0) }), api.ErrArg},
		{with(func(s *api.WiState) { s.Used, s.Next = nil, -1 }), api.ErrArg},
		{with(func(s *api.WiState) { s.Last, s.Credit[0] = nil, math.MaxInt }), api.ErrArg},
	})
	if e := window.CheckState(plain(2, 0), api.WiState{Used: []int{100, 0}, Credit: []int{-7, 7}, Last: []int{0, 3650}}); e != api.OK {
		t.Errorf("CheckState = %d", e)
	}
	if e := window.CheckState(plain(2, 0), api.WiState{Used: []int{0, 0}, Credit: []int{0, 0}, Last: []int{0, 0}, Next: 1}); e != api.ErrRange {
		t.Errorf("CheckState = %d", e)
	}
}

// The errors of states and skies, for all functions with them: no next window, and skies that are not as stated.
func TestSkies(t *testing.T) {
	over := with(func(s *api.WiState) { s.Next = 3 })
	for _, c := range []struct {
		s   api.WiState
		sky api.WiSky
		e   api.Errno
	}{
		{over, skyA(), api.ErrDown},
		{over, api.WiSky{Wind: -1}, api.ErrDown},
		{first(), api.WiSky{Wind: -1}, api.ErrArg},
		{first(), api.WiSky{Wind: 1001}, api.ErrArg},
		{first(), api.WiSky{Wind: math.MinInt}, api.ErrArg},
		{first(), api.WiSky{Wind: math.MaxInt}, api.ErrArg},
		{first(), api.WiSky{Kinds: []int{-1}}, api.ErrArg},
		{first(), api.WiSky{Kinds: []int{10}}, api.ErrArg},
		{first(), api.WiSky{Kinds: []int{2, 2}}, api.ErrArg},
		{first(), api.WiSky{Kinds: []int{0, 2, 1}}, api.ErrArg},
	} {
		for j, e := range skyErrors(example(), c.s, c.sky) {
			if e != c.e {
				t.Errorf("%v, %v: the function %d returns %d, and not %d", c.s, c.sky, j, e, c.e)
			}
		}
	}
	for _, sky := range []api.WiSky{{}, {Wind: 1000}, {Kinds: []int{0, 1, 2, 3, 4, 5, 6, 7, 8, 9}}, {Kinds: []int{}}} {
		rightsOf(t, example(), first(), sky, 100)
		turnsOf(t, example(), first(), sky, nil)
		if why, e := window.Why(example(), first(), sky, north, 100); e != api.OK {
			t.Errorf("Why with %v = %d, %d", sky, why, e)
		}
	}
	// No windows at all: there is no next one at first.
	p := plain(2, 0)
	for j, e := range skyErrors(p, startOf(t, p), api.WiSky{}) {
		if e != api.ErrDown {
			t.Errorf("the function %d returns %d", j, e)
		}
	}
	if uses, after, e := window.Season(p, nil); e != api.OK || len(uses) != 0 || !sameState(after, startOf(t, p)) {
		t.Errorf("Season = %v, %v, %d", uses, after, e)
	}
}
