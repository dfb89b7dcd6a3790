package window_test

import (
	"math/rand"
	"slices"
	"testing"

	"hangfire/api"
	"hangfire/window"
)

// look is what Turns says before a turn, the rights then, and the turn.
type look struct {
	team, minute int
	rights       []int
	had          []int // the teams that have had their turn
	wasGiven     bool
	turn         api.WiTurn
}

// looks returns what is seen before each turn of a night.
func looks(t *testing.T, p api.WiPlan, s api.WiState, n api.WiNight) (l []look) {
	t.Helper()
	var had []int
	for i, turn := range n.Turns {
		team, minute, _ := turnsOf(t, p, s, n.Sky, n.Turns[:i])
		l = append(l, look{
			team: team, minute: minute, had: slices.Clone(had), turn: turn,
			rights:   rightsOf(t, p, s, n.Sky, minute),
			wasGiven: i > 0 && n.Turns[i-1].What == api.WiGiven,
		})
		had = append(had, team)
	}
	return l
}

// rivals returns the other teams that have a right, and have not had their turn.
func (x look) rivals() (l []int) {
	for _, team := range x.rights {
		if team != x.team && !slices.Contains(x.had, team) {
			l = append(l, team)
		}
	}
	return l
}

// eachNight plays random seasons, and tells of each night the plan, the state before it, the state after it, and the use.
func eachNight(t *testing.T, seed int64, seasons int, tell func(p api.WiPlan, s api.WiState, n api.WiNight, after api.WiState, u api.WiUse)) {
	t.Helper()
	r := rand.New(rand.NewSource(seed))
	for range seasons {
		p := randomPlan(r)
		s := startOf(t, p)
		for _, n := range randomSeason(t, r, p) {
			after, u := playOf(t, p, s, n)
			tell(p, s, n, after, u)
			s = after
		}
	}
}

// P11.7: T7
func TestRightsOfUses(t *testing.T) {
	used, gifts, had := 0, 0, 0
	eachNight(t, 1107, 1500, func(p api.WiPlan, s api.WiState, n api.WiNight, after api.WiState, u api.WiUse) {
		if u.Team == none {
			return
		}
		l := looks(t, p, s, n)
		x := l[len(l)-1]
		place := slices.Index(x.rights, u.Team)
		if x.team != u.Team || place < 0 || x.wasGiven != (u.By != none) {
			t.Fatalf("%v uses a window of %v in %v with %v; before the last turn: %v", u, p, s, n, x)
		}
		used++
		if x.wasGiven {
			gifts++
			return
		}
		for _, team := range x.rights[:place] {
			had++
			if !slices.Contains(x.had, team) {
				t.Fatalf("%v uses a window of %v in %v with %v; before the last turn: %v", u, p, s, n, x)
			}
		}
	})
	if min(used, gifts, had) < 200 {
		t.Errorf("%d uses, %d by gifts, %d after another team", used, gifts, had)
	}
}

// P11.8: T7, nobody is passed over
func TestNobodyPassedOver(t *testing.T) {
	unused, late := 0, 0
	eachNight(t, 1108, 1500, func(p api.WiPlan, s api.WiState, n api.WiNight, after api.WiState, u api.WiUse) {
		if u.Team != none {
			return
		}
		unused++
		var had []int
		for _, x := range looks(t, p, s, n) {
			had = append(had, x.team)
		}
		_, last, _ := turnsOf(t, p, s, n.Sky, n.Turns)
		atLast := rightsOf(t, p, s, n.Sky, last)
		for _, team := range rightsOf(t, p, s, n.Sky, p.Windows[s.Next].From) {
			switch {
			case slices.Contains(had, team):
			case slices.Contains(atLast, team):
				t.Fatalf("%d is passed over in a window of %v in %v with %v", team, p, s, n)
			default:
				late++
			}
		}
	})
	if min(unused, late) < 500 {
		t.Errorf("%d windows are not used; %d times it is too late for a team", unused, late)
	}
}

// P11.9
func TestCredits(t *testing.T) {
	launches, rivals, gifts := 0, 0, 0
	eachNight(t, 1109, 1500, func(p api.WiPlan, s api.WiState, n api.WiNight, after api.WiState, u api.WiUse) {
		l := looks(t, p, s, n)
		change, isGiven := 0, false
		for _, x := range l {
			if x.turn.What == api.WiLaunched {
				change = len(x.rivals()) - p.Cost
				rivals += len(x.rivals())
				launches++
			}
			isGiven = isGiven || x.turn.What == api.WiGiven
		}
		if isGiven {
			gifts++
		}
		if got := sum(after.Credit) - sum(s.Credit); got != change {
			t.Fatalf("the credits of %v change by %d, and not %d, from %v with %v", p, got, change, s, n)
		}
		if u.Team == none && !isGiven && !slices.Equal(after.Credit, s.Credit) {
			t.Fatalf("the credits of %v change from %v to %v with %v", p, s, after, n)
		}
	})
	if min(launches, rivals, gifts) < 500 {
		t.Errorf("%d launches, %d rivals, %d nights with gifts", launches, rivals, gifts)
	}
}

// P11.10
func TestFair(t *testing.T) {
	r := rand.New(rand.NewSource(1110))
	nights := 0
	for range 1000 {
		p := plain(1+r.Intn(8), 60)
		p.Cost, p.Gift = pick(r, 0, 1, 7, 100), r.Intn(101)
		credit, priority := pick(r, 0, 5, 100000), 1+r.Intn(9)
		for i := range p.Teams {
			team := &p.Teams[i]
			team.Credit, team.Priority, team.Setup = credit, priority, 1+r.Intn(100)
		}
		s := startOf(t, p)
		for range p.Windows {
			team, minute, _ := turnsOf(t, p, s, api.WiSky{}, nil)
			at := minute + p.Teams[team].Setup
			s, _ = playOf(t, p, s, night(api.WiSky{}, launched(at+r.Intn(101-at))))
			if slices.Max(s.Used)-slices.Min(s.Used) > 1 {
				t.Fatalf("the windows of %v have been used %v times", p, s.Used)
			}
			nights++
		}
		if sum(s.Used) != 60 {
			t.Fatalf("the windows of %v have been used %v times", p, s.Used)
		}
	}
	if nights != 60000 {
		t.Errorf("%d nights", nights)
	}
}

// P11.11: T8
func TestLaterNights(t *testing.T) {
	r := rand.New(rand.NewSource(1111))
	for range 500 {
		p := randomPlan(r)
		nights := randomSeason(t, r, p)
		all, last := seasonOf(t, p, nights)
		for n := range len(nights) + 1 {
			uses, s := seasonOf(t, p, nights[:n])
			if !slices.Equal(uses, all[:min(len(uses), len(all))]) || s.Next != n {
				t.Fatalf("%v after %d nights, and %v after all of %v", uses, n, all, nights)
			}
			// With other nights later on, what has been before is the same.
			other := append(slices.Clone(nights[:n]), randomNights(t, r, p, s)...)
			if more, _ := seasonOf(t, p, other); !slices.Equal(uses, more[:min(len(uses), len(more))]) {
				t.Fatalf("%v after %d nights, and %v after all of %v", uses, n, more, other)
			}
			for _, x := range nights[n:] {
				after, u := playOf(t, p, s, x)
				s = after
				if u.Team != none {
					uses = append(uses, u)
				}
			}
			if !slices.Equal(uses, all) || !sameState(s, last) {
				t.Fatalf("%v, %v with Play from the night %d on, and %v, %v with Season of %v", uses, s, n, all, last, nights)
			}
		}
	}
}

// P11.12: the greater Priority first.
func TestPriority(t *testing.T) {
	pairs := 0
	eachNight(t, 1112, 1500, func(p api.WiPlan, s api.WiState, n api.WiNight, after api.WiState, u api.WiUse) {
		for _, x := range looks(t, p, s, n) {
			if x.wasGiven {
				continue
			}
			for _, team := range x.rivals() {
				pairs++
				if p.Teams[team].Priority > p.Teams[x.team].Priority {
					t.Fatalf("%d has the turn before %d, in %v in %v with %v", x.team, team, p, s, n)
				}
			}
		}
	})
	if pairs < 2000 {
		t.Errorf("%d pairs", pairs)
	}
}

// P11.12: a Priority that is made greater.
func TestGreaterPriority(t *testing.T) {
	r := rand.New(rand.NewSource(1113))
	earlier := 0
	for range 10000 {
		x := randomScene(r)
		minute := x.window().From
		l := rightsOf(t, x.plan, x.state, x.sky, minute)
		team := r.Intn(len(x.plan.Teams))
		p := clonePlan(x.plan)
		p.Teams[team].Priority += r.Intn(10 - p.Teams[team].Priority)
		m := rightsOf(t, p, x.state, x.sky, minute)
		before, after := slices.Index(l, team), slices.Index(m, team)
		if after > before || (after < 0) != (before < 0) {
			t.Fatalf("%v, and %v with a greater Priority of %d, in %v", l, m, team, x)
		}
		if after < before {
			earlier++
		}
	}
	if earlier < 500 {
		t.Errorf("%d times earlier", earlier)
	}
}

// P11.13
func TestAuditLaw(t *testing.T) {
	r := rand.New(rand.NewSource(1114))
	some := 0
	for range 1000 {
		p := randomPlan(r)
		nights := randomSeason(t, r, p)
		uses, _ := seasonOf(t, p, nights)
		audit := func(l []api.WiUse, want int) {
			t.Helper()
			if at, e := window.Audit(p, nights, l); at != want || e != api.OK {
				t.Fatalf("Audit of %v = %d, %d, and not %d: Season is %v", l, at, e, want, uses)
			}
		}
		audit(uses, none)
		at := r.Intn(len(uses) + 1)
		extra := use(r.Intn(12), r.Intn(8), r.Intn(100), none)
		if at == len(uses) || uses[at] != extra {
			audit(slices.Insert(slices.Clone(uses), at, extra), at)
		}
		if at == len(uses) {
			continue
		}
		some++
		audit(slices.Delete(slices.Clone(uses), at, at+1), at)
		for i := range 4 {
			l := slices.Clone(uses)
			number := []*int{&l[at].Window, &l[at].Team, &l[at].At, &l[at].By}[i]
			was := *number
			for *number == was {
				*number = pick(r, was-1, was+1, odd(r))
			}
			audit(l, at)
		}
	}
	if some < 300 {
		t.Errorf("%d audits with a use", some)
	}
}

// results returns what all functions return.
func results(p api.WiPlan, s api.WiState, n api.WiNight, team, minute int, nights []api.WiNight, uses []api.WiUse) []any {
	part, at, e0 := window.Check(p)
	start, e1 := window.Start(p)
	e2 := window.CheckState(p, s)
	why, e3 := window.Why(p, s, n.Sky, team, minute)
	rights, e4 := window.Rights(p, s, n.Sky, minute)
	next, now, to, e5 := window.Turns(p, s, n.Sky, n.Turns)
	after, u, e6 := window.Play(p, s, n)
	all, last, e7 := window.Season(p, nights)
	wrong, e8 := window.Audit(p, nights, uses)
	return []any{start, after, last, rights, to, all, part, at, e0, e1, e2, why, e3, e4, next, now, e5, u, e6, e7, wrong, e8}
}

// sameResults reports whether two of them are equal.
func sameResults(a, b []any) bool {
	for i := range 3 {
		if !sameState(a[i].(api.WiState), b[i].(api.WiState)) {
			return false
		}
	}
	for i := 3; i < 5; i++ {
		if !slices.Equal(a[i].([]int), b[i].([]int)) {
			return false
		}
	}
	return slices.Equal(a[5].([]api.WiUse), b[5].([]api.WiUse)) && slices.Equal(a[6:], b[6:])
}

// spoil overwrites all lists of results, also behind their ends.
func spoil(l []any) {
	numbers := func(l []int) {
		l = l[:cap(l)]
		for i := range l {
			l[i] = -77
		}
	}
	for i := range 3 {
		s := l[i].(api.WiState)
		numbers(s.Used)
		numbers(s.Credit)
		numbers(s.Last)
	}
	numbers(l[3].([]int))
	numbers(l[4].([]int))
	clear(l[5].([]api.WiUse))
}

// P11.14: no argument is changed, and results are new memory.
func TestMemory(t *testing.T) {
	p, s, nights := example(), with(func(s *api.WiState) { s.Used[0] = 1 }), threeNights()
	for i := range p.Teams {
		p.Teams[i].Kinds, p.Teams[i].Away = slices.Grow(p.Teams[i].Kinds, 3), slices.Grow(p.Teams[i].Away, 3)
	}
	s.Used, s.Credit, s.Last = slices.Grow(s.Used, 3), slices.Grow(s.Credit, 3), slices.Grow(s.Last, 3)
	n := night(skyA(), given(100, guest), launched(120))
	uses, _ := seasonOf(t, p, nights)
	q, u, m, v, k := clonePlan(p), cloneState(s), cloneNights([]api.WiNight{n})[0], slices.Clone(uses), cloneNights(nights)
	all := func() []any { return results(p, s, n, north, 100, nights, uses) }
	one, two := all(), all()
	if !sameResults(one, two) {
		t.Errorf("%v, and then %v", one, two)
	}
	spoil(two)
	if three := all(); !sameResults(one, three) {
		t.Errorf("%v, and then %v", one, three)
	}
	if !samePlan(p, q) || !sameState(s, u) || !sameNight(n, m) || !slices.Equal(uses, v) || !slices.EqualFunc(nights, k, sameNight) {
		t.Errorf("%v, %v, %v, %v, %v", p, s, n, uses, nights)
	}
	for _, l := range [][]int{s.Used, s.Credit, s.Last} {
		if behind := l[len(l):cap(l)]; slices.ContainsFunc(behind, func(n int) bool { return n != 0 }) {
			t.Errorf("%v is behind a list of the state", behind)
		}
	}
	// Also when nothing is used or played, or some list is as it was.
	for i, x := range [][]any{results(p, s, night(api.WiSky{Wind: 1000}), north, 100, nil, nil), results(p, s, night(skyB(), scrubbed(390)), north, 100, nil, nil)} {
		spoil(x)
		if !samePlan(p, q) || !sameState(s, u) {
			t.Errorf("%d: %v, %v", i, p, s)
		}
	}
	// The lists of one result share nothing.
	after, _ := playOf(t, p, s, n)
	for i, l := range [][]int{after.Used, after.Credit, after.Last} {
		l[0] = -1000 - i
	}
	if after.Used[0] != -1000 || after.Credit[0] != -1001 || after.Last[0] != -1002 {
		t.Errorf("%v", after)
	}
}

// P11.14: nil lists are the same as empty ones.
func TestNilLists(t *testing.T) {
	nils := plain(2, 1)
	empty := clonePlan(nils)
	for i := range empty.Teams {
		empty.Teams[i].Kinds, empty.Teams[i].Away = []int{}, []api.Span{}
	}
	s := startOf(t, nils)
	a, b := night(api.WiSky{}), night(api.WiSky{Kinds: []int{}}, turns()...)
	b.Turns = []api.WiTurn{}
	one := results(nils, s, a, 0, 0, nil, nil)
	two := results(empty, s, b, 0, 0, []api.WiNight{}, []api.WiUse{})
	if !sameResults(one, two) || one[21] != api.OK {
		t.Errorf("%v, and %v", one, two)
	}
	nils.Windows, empty.Windows = nil, []api.WiWindow{}
	nils.Teams, empty.Teams = nil, []api.WiTeam{}
	none := api.WiState{Used: []int{}, Credit: []int{}, Last: []int{}}
	one, two = results(nils, api.WiState{}, a, 0, 0, nil, nil), results(empty, none, b, 0, 0, []api.WiNight{}, []api.WiUse{})
	if !sameResults(one, two) {
		t.Errorf("%v, and %v", one, two)
	}
}

// oddScene returns a scene some of whose numbers are odd, and whose lists are sometimes too short or too long.
func oddScene(r *rand.Rand) scene {
	x := randomScene(r)
	p, s := &x.plan, &x.state
	numbers := []*int{&p.Cost, &p.Gift, &s.Next, &x.sky.Wind}
	for i := range p.Teams {
		y := &p.Teams[i]
		numbers = append(numbers, &y.Priority, &y.Need, &y.Credit, &y.Wind, &y.Rest, &y.Setup, &s.Used[i], &s.Credit[i], &s.Last[i])
		for j := range y.Kinds {
			numbers = append(numbers, &y.Kinds[j])
		}
		for j := range y.Away {
			numbers = append(numbers, &y.Away[j].Lo, &y.Away[j].Hi)
		}
		if r.Intn(50) == 0 {
			y.Name = []string{"", "A", "x"}[r.Intn(3)]
		}
	}
	for i := range p.Windows {
		w := &p.Windows[i]
		numbers = append(numbers, &w.Day, &w.From, &w.Until)
	}
	for i := range x.sky.Kinds {
		numbers = append(numbers, &x.sky.Kinds[i])
	}
	change(r, numbers...)
	lists := []*[]int{&s.Used, &s.Credit, &s.Last}
	switch l := lists[r.Intn(3)]; r.Intn(20) {
	case 0:
		*l = (*l)[1:]
	case 1:
		*l = append(*l, 0)
	}
	return x
}

// P11.14: no arguments make a function panic, and with an error all other results are zero.
func TestAnyArguments(t *testing.T) {
	r := rand.New(rand.NewSource(1115))
	fine := make([]int, 7)
	for range 30000 {
		x := oddScene(r)
		n := night(x.sky)
		for range r.Intn(4) {
			turn := api.WiTurn{What: 1 + r.Intn(3), At: r.Intn(100), To: r.Intn(3)}
			change(r, &turn.What, &turn.At, &turn.To)
			n.Turns = append(n.Turns, turn)
		}
		nights := []api.WiNight{n, n}[:r.Intn(3)]
		all := results(x.plan, x.state, n, pick(r, 0, 0, 0, odd(r)), pick(r, r.Intn(200), odd(r)), nights, []api.WiUse{{}})
		errors := []any{all[9], all[12], all[13], all[16], all[18], all[19], all[21]}
		zero := []bool{
			isZero(all[0].(api.WiState)), all[11] == api.OK, len(all[3].([]int)) == 0, len(all[4].([]int)) == 0 && all[14] == 0 && all[15] == 0,
			isZero(all[1].(api.WiState)) && all[17] == api.WiUse{}, isZero(all[2].(api.WiState)) && len(all[5].([]api.WiUse)) == 0, all[20] == 0,
		}
		for i, e := range errors {
			if e != api.OK && !zero[i] {
				t.Fatalf("the function %d returns %v, %d", i, all, e)
			}
			if e == api.OK {
				fine[i]++
			}
		}
	}
	if slices.Min(fine) < 500 {
		t.Errorf("how often there is no error: %v", fine)
	}
}
