package window_test

import (
	"math"
	"math/rand"
	"slices"
	"strings"
	"testing"

	"hangfire/api"
	"hangfire/window"
)

// none is what takes the place of a team, or of a day, where there is none.
const none = -1

// The teams of the chapter's examples.
const (
	north = iota
	south
	guest
)

func span(lo, hi int) api.Span { return api.Span{Lo: lo, Hi: hi} }

func launched(at int) api.WiTurn { return api.WiTurn{What: api.WiLaunched, At: at} }

func scrubbed(at int) api.WiTurn { return api.WiTurn{What: api.WiScrubbed, At: at} }

func given(at, to int) api.WiTurn { return api.WiTurn{What: api.WiGiven, At: at, To: to} }

func turns(l ...api.WiTurn) []api.WiTurn { return l }

func night(sky api.WiSky, l ...api.WiTurn) api.WiNight { return api.WiNight{Sky: sky, Turns: l} }

func use(window, team, at, by int) api.WiUse {
	return api.WiUse{Window: window, Team: team, At: at, By: by}
}

// example is the plan P of the chapter's examples.
func example() api.WiPlan {
	return api.WiPlan{
		Teams: []api.WiTeam{
			north: {Name: "north", Priority: 5, Need: 2, Credit: 10, Kinds: []int{1}, Wind: 100, Rest: 2, Setup: 30},
			south: {Name: "south", Priority: 5, Need: 3, Credit: 12, Wind: 200, Setup: 60},
			guest: {Name: "guest", Priority: 1, Need: 1, Wind: 300, Setup: 20, Away: []api.Span{span(4, 5)}},
		},
		Windows: []api.WiWindow{{Day: 1, From: 100, Until: 400}, {Day: 2, From: 100, Until: 200}, {Day: 4, From: 0, Until: 60}},
		Cost:    5,
		Gift:    3,
	}
}

// changed returns the plan P with a change.
func changed(change func(p *api.WiPlan)) api.WiPlan {
	p := example()
	change(&p)
	return p
}

// skyA and skyB are those of the chapter's examples.
func skyA() api.WiSky { return api.WiSky{Kinds: []int{1}, Wind: 80} }

func skyB() api.WiSky { return api.WiSky{Wind: 250} }

// first is the state of the plan P at first.
func first() api.WiState {
	return api.WiState{Used: []int{0, 0, 0}, Credit: []int{10, 12, 0}, Last: []int{none, none, none}}
}

// with returns the state of the plan P at first with a change.
func with(change func(s *api.WiState)) api.WiState {
	s := first()
	change(&s)
	return s
}

// plain returns a plan with some teams that have a right to any window, each with less credit than the one before it, and some windows from 0 to 100, a day each.
func plain(teams, windows int) api.WiPlan {
	p := api.WiPlan{Cost: 7, Gift: 4}
	for i := range teams {
		p.Teams = append(p.Teams, api.WiTeam{Name: "team-" + string(rune('a'+i)), Priority: 3, Need: 100, Credit: 1000 - 20*i, Wind: 1000, Setup: 10})
	}
	for i := range windows {
		p.Windows = append(p.Windows, api.WiWindow{Day: i, Until: 100})
	}
	return p
}

// startOf returns the state at first of a plan without an error.
func startOf(t *testing.T, p api.WiPlan) api.WiState {
	t.Helper()
	s, e := window.Start(p)
	if e != api.OK {
		t.Fatalf("Start of %v = %d", p, e)
	}
	return s
}

// rightsOf returns the teams that have a right, without an error.
func rightsOf(t *testing.T, p api.WiPlan, s api.WiState, sky api.WiSky, minute int) []int {
	t.Helper()
	l, e := window.Rights(p, s, sky, minute)
	if e != api.OK {
		t.Fatalf("Rights of %v in %v with %v at %d = %d", p, s, sky, minute, e)
	}
	return l
}

// turnsOf returns what Turns does, without an error.
func turnsOf(t *testing.T, p api.WiPlan, s api.WiState, sky api.WiSky, l []api.WiTurn) (team, minute int, to []int) {
	t.Helper()
	team, minute, to, e := window.Turns(p, s, sky, l)
	if e != api.OK {
		t.Fatalf("Turns of %v in %v with %v after %v = %d", p, s, sky, l, e)
	}
	return team, minute, to
}

// playOf returns what Play does, without an error.
func playOf(t *testing.T, p api.WiPlan, s api.WiState, n api.WiNight) (api.WiState, api.WiUse) {
	t.Helper()
	after, use, e := window.Play(p, s, n)
	if e != api.OK {
		t.Fatalf("Play of %v in %v with %v = %d", p, s, n, e)
	}
	return after, use
}

// seasonOf returns what Season does, without an error.
func seasonOf(t *testing.T, p api.WiPlan, l []api.WiNight) ([]api.WiUse, api.WiState) {
	t.Helper()
	uses, after, e := window.Season(p, l)
	if e != api.OK {
		t.Fatalf("Season of %v with %v = %d", p, l, e)
	}
	return uses, after
}

func sameState(a, b api.WiState) bool {
	return slices.Equal(a.Used, b.Used) && slices.Equal(a.Credit, b.Credit) && slices.Equal(a.Last, b.Last) && a.Next == b.Next
}

func isZero(s api.WiState) bool { return sameState(s, api.WiState{}) }

func cloneState(s api.WiState) api.WiState {
	s.Used, s.Credit, s.Last = slices.Clone(s.Used), slices.Clone(s.Credit), slices.Clone(s.Last)
	return s
}

func sameTeam(a, b api.WiTeam) bool {
	return a.Name == b.Name && a.Priority == b.Priority && a.Need == b.Need && a.Credit == b.Credit && slices.Equal(a.Kinds, b.Kinds) &&
		a.Wind == b.Wind && a.Rest == b.Rest && a.Setup == b.Setup && slices.Equal(a.Away, b.Away)
}

func samePlan(a, b api.WiPlan) bool {
	return slices.EqualFunc(a.Teams, b.Teams, sameTeam) && slices.Equal(a.Windows, b.Windows) && a.Cost == b.Cost && a.Gift == b.Gift
}

func clonePlan(p api.WiPlan) api.WiPlan {
	p.Teams, p.Windows = slices.Clone(p.Teams), slices.Clone(p.Windows)
	for i := range p.Teams {
		t := &p.Teams[i]
		t.Kinds, t.Away = slices.Clone(t.Kinds), slices.Clone(t.Away)
	}
	return p
}

func sameNight(a, b api.WiNight) bool {
	return slices.Equal(a.Sky.Kinds, b.Sky.Kinds) && a.Sky.Wind == b.Sky.Wind && slices.Equal(a.Turns, b.Turns)
}

func cloneNights(l []api.WiNight) []api.WiNight {
	l = slices.Clone(l)
	for i := range l {
		l[i].Sky.Kinds, l[i].Turns = slices.Clone(l[i].Sky.Kinds), slices.Clone(l[i].Turns)
	}
	return l
}

func sum(l []int) (n int) {
	for _, x := range l {
		n += x
	}
	return n
}

// pick returns one of some numbers.
func pick(r *rand.Rand, l ...int) int { return l[r.Intn(len(l))] }

// randomKinds returns kinds, each of which is there as often as one of some times.
func randomKinds(r *rand.Rand, times int) (l []int) {
	for kind := range api.WiKinds {
		if r.Intn(times) == 0 {
			l = append(l, kind)
		}
	}
	return l
}

// randomAway returns spans of days up to about a day, in order.
func randomAway(r *rand.Rand, last int) (l []api.Span) {
	for day := r.Intn(last + 1); len(l) < api.MaxWiAway && day <= last; {
		hi := day + r.Intn(3)
		l = append(l, span(day, hi))
		day = hi + 1 + r.Intn(2*last+1)
	}
	return l
}

// randomTeam returns a team without an error: it most often has few numbers that the other ones do not have, so that the order often needs all of them.
func randomTeam(r *rand.Rand, name string, last int) api.WiTeam {
	t := api.WiTeam{
		Name:     name,
		Priority: pick(r, 1, 5, 5, 5, 9),
		Need:     pick(r, 0, 1, 2, 3, 5, 100, 100, 100, 100, 100),
		Credit:   pick(r, 0, 3, 10, 10, 10, 11, 12, 100000),
		Wind:     pick(r, 50, 100, 100, 200, 1000, 1000),
		Rest:     pick(r, 0, 0, 0, 0, 1, 2, 3, 100),
		Setup:    pick(r, 1, 1, 2, 5, 10, 10, 20, 30, 60),
	}
	if r.Intn(3) == 0 {
		t.Kinds = randomKinds(r, pick(r, 2, 3, 9))
	}
	if r.Intn(4) == 0 {
		t.Away = randomAway(r, last)
	}
	return t
}

// randomWindows returns windows without an error.
func randomWindows(r *rand.Rand, n int) (l []api.WiWindow) {
	day, minute := r.Intn(3), 0
	for range n {
		if minute > 1200 || r.Intn(3) > 0 {
			day, minute = day+1+r.Intn(2), r.Intn(100)
		}
		until := minute + 1 + r.Intn(pick(r, 5, 40, 100, 100, 200))
		l = append(l, api.WiWindow{Day: day, From: minute, Until: until})
		minute = until + pick(r, 0, 0, 1, 50)
	}
	return l
}

// eased returns a team with fewer reasons why it has no right.
func eased(r *rand.Rand, t api.WiTeam) api.WiTeam {
	t.Need, t.Rest, t.Wind, t.Setup = 100, pick(r, 0, 0, 0, 1), 1000, pick(r, 1, 2, 5)
	t.Kinds, t.Away = nil, nil
	return t
}

// randomPlan returns a plan without an error.
func randomPlan(r *rand.Rand) api.WiPlan {
	p := api.WiPlan{Windows: randomWindows(r, 1+r.Intn(12)), Cost: pick(r, 0, 1, 5, 100), Gift: pick(r, 0, 1, 3, 100)}
	easy := r.Intn(2) == 0
	for i := range 1 + r.Intn(api.MaxWiTeams) {
		t := randomTeam(r, strings.Repeat("x", i+1), p.Windows[len(p.Windows)-1].Day)
		if easy && r.Intn(8) > 0 {
			t = eased(r, t)
		}
		p.Teams = append(p.Teams, t)
	}
	return p
}

func randomSky(r *rand.Rand) api.WiSky {
	return api.WiSky{Kinds: randomKinds(r, pick(r, 2, 3, 9)), Wind: pick(r, 0, 0, 50, 50, 51, 100, 100, 101, 200, 1000)}
}

// randomState returns a state of a plan without an error, with a next window.
func randomState(r *rand.Rand, p api.WiPlan) api.WiState {
	s := api.WiState{Next: r.Intn(len(p.Windows))}
	day := p.Windows[s.Next].Day
	for range p.Teams {
		s.Used = append(s.Used, pick(r, 0, 0, 1, 1, 1, 1, 2, 2, 5, 99, 100))
		s.Credit = append(s.Credit, pick(r, 9, 10, 10, 10, 11, -100000, 200000))
		s.Last = append(s.Last, pick(r, none, none, none, day, max(day-1, 0), max(day-1, 0), max(day-2, 0), max(day-3, 0), max(day-3, 0), day+1))
	}
	return s
}

// randomTurn returns a turn that is in order most often, if there is one.
func randomTurn(r *rand.Rand, p api.WiPlan, s api.WiState, team, minute int, to []int) api.WiTurn {
	until := p.Windows[s.Next].Until
	at := func(least int) int { return least + r.Intn(max(until-least, 0)+1) }
	switch r.Intn(9) {
	case 0:
		return launched(at(minute + p.Teams[max(team, 0)].Setup))
	case 1, 2, 3:
		return scrubbed(pick(r, minute, at(minute)))
	case 4, 5, 6:
		if len(to) > 0 {
			return given(minute, pick(r, to...))
		}
	}
	return scrubbed(minute)
}

// played returns turns of a night, after which the window is over.
func played(t *testing.T, r *rand.Rand, p api.WiPlan, s api.WiState, sky api.WiSky) (l []api.WiTurn) {
	t.Helper()
	for {
		team, minute, to := turnsOf(t, p, s, sky, l)
		if team == none {
			return l
		}
		l = append(l, randomTurn(r, p, s, team, minute, to))
	}
}

// randomNights returns nights of a plan from a state on: not always as many as it has windows.
func randomNights(t *testing.T, r *rand.Rand, p api.WiPlan, s api.WiState) (l []api.WiNight) {
	t.Helper()
	for s.Next < len(p.Windows) && r.Intn(20) > 0 {
		n := night(randomSky(r))
		n.Turns = played(t, r, p, s, n.Sky)
		l = append(l, n)
		s, _ = playOf(t, p, s, n)
	}
	return l
}

// randomSeason returns nights of a plan from the first window on.
func randomSeason(t *testing.T, r *rand.Rand, p api.WiPlan) []api.WiNight {
	t.Helper()
	return randomNights(t, r, p, startOf(t, p))
}

// odd returns a number that is often beyond all limits.
func odd(r *rand.Rand) int {
	return pick(r, math.MinInt, math.MinInt+1, -200001, -100001, -100000, -2, -1, 0, 1, 2, 3, 4, 8, 9, 10, 11, 60, 61, 100, 101, 1000, 1001, 1440, 1441, 3650, 3651, 100000, 100001, 200000, 200001, math.MaxInt-1, math.MaxInt, r.Intn(20), int(r.Uint64()))
}

// change sets some of the numbers to odd ones.
func change(r *rand.Rand, numbers ...*int) {
	for range r.Intn(3) {
		*numbers[r.Intn(len(numbers))] = odd(r)
	}
}
