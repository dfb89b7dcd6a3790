package window_test

import (
	"math/rand"
	"slices"
	"sort"
	"testing"

	"hangfire/api"
	"hangfire/window"
)

// This file reads the definitions a second time: day by day, minute by minute, and by all turns that are in order.

// scene is a plan, a state with a next window, and a sky.
type scene struct {
	plan  api.WiPlan
	state api.WiState
	sky   api.WiSky
}

func (x scene) window() api.WiWindow { return x.plan.Windows[x.state.Next] }

// daysOf returns the days of spans.
func daysOf(l []api.Span) map[int]bool {
	days := map[int]bool{}
	for _, s := range l {
		for day := s.Lo; day <= s.Hi; day++ {
			days[day] = true
		}
	}
	return days
}

// launches returns the minutes at which a team can launch that is called at a minute.
func (x scene) launches(team, minute int) (l []int) {
	for at := minute; at <= x.window().Until; at++ {
		if at-x.plan.Teams[team].Setup >= minute {
			l = append(l, at)
		}
	}
	return l
}

// tired reports whether a team rests on the day of the window, or has launched on a later one.
func (x scene) tired(team int) bool {
	last, day := x.state.Last[team], x.window().Day
	if last < 0 {
		return false
	}
	days := 0
	for d := last; d < day; d++ {
		days++
	}
	return last > day || days < x.plan.Teams[team].Rest
}

// pleased reports whether a sky has something for a team.
func (x scene) pleased(team int) bool {
	kinds := x.plan.Teams[team].Kinds
	both := 0
	for _, a := range kinds {
		for _, b := range x.sky.Kinds {
			if a == b {
				both++
			}
		}
	}
	return both > 0 || len(kinds) == 0
}

// why returns why a team has no right.
func (x scene) why(team, minute int) api.Errno {
	y := x.plan.Teams[team]
	var reasons []api.Errno
	add := func(so bool, why api.Errno) {
		if so {
			reasons = append(reasons, why)
		}
	}
	// From the last reason to the first one, which then is the least number.
	add(len(x.launches(team, minute)) == 0, 215)
	add(!(y.Wind >= x.sky.Wind), 214)
	add(!x.pleased(team), 213)
	add(x.tired(team), 212)
	add(daysOf(y.Away)[x.window().Day], 211)
	add(!(y.Need > x.state.Used[team]), 210)
	if len(reasons) == 0 {
		return api.OK
	}
	return slices.Min(reasons)
}

// sorted returns teams in the order: by the least important number first, and then again and again by a more important one.
func (x scene) sorted(l []int) []int {
	l = slices.Clone(l)
	slices.Sort(l)
	for _, less := range []func(a, b int) bool{
		func(a, b int) bool { return x.state.Last[a] < x.state.Last[b] },
		func(a, b int) bool { return x.state.Used[a] < x.state.Used[b] },
		func(a, b int) bool { return x.state.Credit[a] > x.state.Credit[b] },
		func(a, b int) bool { return x.plan.Teams[a].Priority > x.plan.Teams[b].Priority },
	} {
		sort.SliceStable(l, func(i, j int) bool { return less(l[i], l[j]) })
	}
	return l
}

// rights returns the teams that have a right, but some, in the order.
func (x scene) rights(minute int, but []int) (l []int) {
	for team := range x.plan.Teams {
		if x.why(team, minute) == api.OK && !slices.Contains(but, team) {
			l = append(l, team)
		}
	}
	return x.sorted(l)
}

// evening is what is known of a window after some turns.
type evening struct {
	scene
	minute int
	had    []int // the teams that have had their turn
	team   int
	by     int
	use    api.WiUse
}

// evening returns the window before its first turn.
func (x scene) evening() evening {
	x.state = cloneState(x.state)
	v := evening{scene: x, minute: x.window().From, by: none, use: use(x.state.Next, none, 0, none)}
	v.team = append(v.rights(v.minute, nil), none)[0]
	return v
}

// others returns the teams that have a right and have not had their turn, but the one whose turn it is.
func (v evening) others() []int { return v.rights(v.minute, append(slices.Clone(v.had), v.team)) }

// to returns to whom a turn can be given.
func (v evening) to() []int {
	if v.team < 0 || v.by >= 0 {
		return nil
	}
	return v.others()
}

// inOrder returns all turns that can be next.
func (v evening) inOrder() map[api.WiTurn]bool {
	l := map[api.WiTurn]bool{}
	if v.team < 0 {
		return l
	}
	for _, at := range v.launches(v.team, v.minute) {
		l[launched(at)] = true
	}
	for at := v.minute; at <= v.window().Until; at++ {
		l[scrubbed(at)] = true
	}
	for _, to := range v.to() {
		l[given(v.minute, to)] = true
	}
	return l
}

// errorOf returns the error of a turn.
func (v evening) errorOf(t api.WiTurn) api.Errno {
	switch {
	case v.inOrder()[t]:
		return api.OK
	case v.team < 0:
		return api.ErrDown
	case t.What < 1 || t.What > 3:
		return api.ErrArg
	case t.What == api.WiGiven && v.by >= 0:
		return api.ErrTwice
	case t.What == api.WiGiven && !slices.Contains(v.others(), t.To):
		return api.ErrNone
	}
	return api.ErrRange
}

// after returns the window after a turn that is in order.
func (v evening) after(t api.WiTurn) evening {
	others := v.others()
	v.state, v.had = cloneState(v.state), append(slices.Clone(v.had), v.team)
	switch t.What {
	case api.WiLaunched:
		for _, team := range others {
			v.state.Credit[team]++
		}
		v.state.Credit[v.team] -= v.plan.Cost
		v.state.Used[v.team]++
		v.state.Last[v.team] = v.window().Day
		v.use = use(v.state.Next, v.team, t.At, v.by)
		v.team, v.by, v.minute = none, none, t.At
	case api.WiScrubbed:
		v.by, v.minute = none, t.At
		v.team = append(v.rights(v.minute, v.had), none)[0]
	case api.WiGiven:
		v.state.Credit[v.team] += v.plan.Gift
		v.state.Credit[t.To] -= v.plan.Gift
		v.by, v.team = v.team, t.To
	}
	return v
}

// read returns the window after turns, or the first error.
func (x scene) read(l []api.WiTurn) (evening, api.Errno) {
	v := x.evening()
	if len(l) > 16 {
		return v, api.ErrLong
	}
	for _, t := range l {
		if e := v.errorOf(t); e != api.OK {
			return v, e
		}
		v = v.after(t)
	}
	return v, api.OK
}

// randomScene returns a scene without an error.
func randomScene(r *rand.Rand) scene {
	p := randomPlan(r)
	return scene{p, randomState(r, p), randomSky(r)}
}

// P11.3: Why and Rights, for each team and each minute.
func TestReadRights(t *testing.T) {
	r := rand.New(rand.NewSource(1103))
	count, several := map[api.Errno]int{}, 0
	for range 3000 {
		x := randomScene(r)
		w := x.window()
		for _, minute := range []int{w.From, w.Until, w.From + r.Intn(w.Until-w.From)} {
			l := rightsOf(t, x.plan, x.state, x.sky, minute)
			if want := x.rights(minute, nil); !slices.Equal(l, want) {
				t.Fatalf("Rights of %v at %d = %v, and not %v", x, minute, l, want)
			}
			if len(l) > 2 && minute < w.Until {
				several++
			}
			for team := range x.plan.Teams {
				why, e := window.Why(x.plan, x.state, x.sky, team, minute)
				if want := x.why(team, minute); why != want || e != api.OK {
					t.Fatalf("Why of %d in %v at %d = %d, %d, and not %d", team, x, minute, why, e, want)
				}
				count[why]++
			}
		}
	}
	for _, why := range []api.Errno{api.OK, api.WiErrNeed, api.WiErrAway, api.WiErrRest, api.WiErrSky, api.WiErrWind, api.WiErrTime} {
		if count[why] < 1000 || several < 1000 {
			t.Fatalf("how often each reason is there: %v; %d times there are several rights", count, several)
		}
	}
}

// anyTurn returns a turn that may be in order, or not.
func anyTurn(r *rand.Rand, v evening) api.WiTurn {
	w := v.window()
	ready := v.minute + v.plan.Teams[max(v.team, 0)].Setup
	x := api.WiTurn{What: pick(r, 1, 2, 2, 2, 3, 3, 3), At: v.minute}
	switch x.What {
	case api.WiLaunched:
		x.At = pick(r, ready, ready, ready, ready-1, w.Until, w.Until, w.Until+1, w.From+r.Intn(w.Until-w.From+1))
	case api.WiScrubbed:
		x.At = pick(r, v.minute, v.minute, v.minute, v.minute-1, v.minute+1, w.Until, w.Until+1, w.From+r.Intn(w.Until-w.From+1))
	case api.WiGiven:
		x.To = r.Intn(len(v.plan.Teams))
		x.At += pick(r, 0, 0, 0, 0, 0, 0, 1, -1)
	}
	if r.Intn(20) == 0 {
		change(r, &x.What, &x.At, &x.To)
	}
	return x
}

// P11.4: Turns and Play.
func TestReadTurns(t *testing.T) {
	r := rand.New(rand.NewSource(1104))
	count, used, unused := map[api.Errno]int{}, 0, 0
	for range 20000 {
		x := randomScene(r)
		v, e := x.evening(), api.OK
		var l []api.WiTurn
		for len(l) < 17 && e == api.OK && (v.team >= 0 || r.Intn(5) == 0) {
			turn := anyTurn(r, v)
			l = append(l, turn)
			v, e = x.read(l)
		}
		count[e]++
		team, minute, to, f := window.Turns(x.plan, x.state, x.sky, l)
		after, use, g := window.Play(x.plan, x.state, night(x.sky, l...))
		if f != e || e == api.OK && (team != v.team || minute != v.minute || !slices.Equal(to, v.to())) {
			t.Fatalf("Turns of %v after %v = %d, %d, to %v, %d, and not %v, %d", x, l, team, minute, to, f, v, e)
		}
		v.state.Next++
		if e == api.OK && v.team >= 0 {
			e = api.ErrArg
		}
		if g != e || e == api.OK && (!sameState(after, v.state) || use != v.use) {
			t.Fatalf("Play of %v with %v = %v, %v, %d, and not %v, %d", x, l, after, use, g, v, e)
		}
		switch {
		case e == api.OK && use.Team == none:
			unused++
		case e == api.OK:
			used++
		}
	}
	for _, e := range []api.Errno{api.OK, api.ErrArg, api.ErrDown, api.ErrTwice, api.ErrNone, api.ErrRange} {
		if count[e] < 200 || min(used, unused) < 1000 {
			t.Fatalf("how often each error is there: %v; %d windows are used, %d are not", count, used, unused)
		}
	}
}

// P11.4: of a window in which all turns that may be in order are tried, one after the other.
func TestReadEachTurn(t *testing.T) {
	p := changed(func(p *api.WiPlan) {
		p.Windows[0] = api.WiWindow{Day: 1, From: 5, Until: 9}
		for i := range p.Teams {
			p.Teams[i].Setup = 1 + i
		}
	})
	x := scene{p, startOf(t, p), skyA()}
	tried := 0
	var try func(l []api.WiTurn)
	try = func(l []api.WiTurn) {
		v, e := x.read(l)
		tried++
		team, minute, to, f := window.Turns(x.plan, x.state, x.sky, l)
		if f != e || e == api.OK && (team != v.team || minute != v.minute || !slices.Equal(to, v.to())) {
			t.Fatalf("Turns after %v = %d, %d, to %v, %d, and not %v, %d", l, team, minute, to, f, v, e)
		}
		if e != api.OK {
			return
		}
		for what := range 5 {
			for at := 4; at <= 10; at++ {
				for to := none; to <= 3; to++ {
					try(append(slices.Clone(l), api.WiTurn{What: what, At: at, To: to}))
				}
			}
		}
	}
	try(nil)
	if tried < 10000 {
		t.Errorf("%d turns tried", tried)
	}
}

// P11.5, P11.6: Season and Audit.
func TestReadSeason(t *testing.T) {
	r := rand.New(rand.NewSource(1105))
	used, unused := 0, 0
	for range 1500 {
		p := randomPlan(r)
		nights := randomSeason(t, r, p)
		s := startOf(t, p)
		var want []api.WiUse
		for _, n := range nights {
			v, _ := scene{p, s, n.Sky}.read(n.Turns)
			s = v.state
			s.Next++
			if v.use.Team >= 0 {
				want = append(want, v.use)
				used++
			} else {
				unused++
			}
		}
		uses, after := seasonOf(t, p, nights)
		if !slices.Equal(uses, want) || !sameState(after, s) {
			t.Fatalf("Season of %v with %v = %v, %v, and not %v, %v", p, nights, uses, after, want, s)
		}
		if at, e := window.Audit(p, nights, want); at != none || e != api.OK {
			t.Fatalf("Audit of %v with %v = %d, %d", p, nights, at, e)
		}
	}
	if used < 500 || unused < 500 {
		t.Errorf("%d windows are used, %d are not", used, unused)
	}
}
