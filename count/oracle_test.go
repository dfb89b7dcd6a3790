package count_test

import (
	"math/rand"
	"slices"
	"testing"

	"hangfire/api"
	"hangfire/count"
	"hangfire/pad"
)

// This file reads the definitions a second time: charges tick by tick, reasons by what they say of a state, ends from the launch backwards, and paths one by one.

// leftOf returns the charges at a tick.
func leftOf(p api.CtPlan, s api.CtState, tick int) []int {
	left := slices.Clone(s.Left)
	for now := s.Now; now < tick; now++ {
		for i, b := range p.Batteries {
			if s.On[i] && left[i] > b.Rate {
				left[i] -= b.Rate
			} else if s.On[i] {
				left[i] = 0
			}
		}
	}
	return left
}

// reason is one of the table, and whether it applies.
type reason struct {
	applies bool
	why     api.Errno
}

// unpowered returns whether a battery that a step uses is empty, or neither on nor one of some others.
func unpowered(p api.CtPlan, s api.CtState, step int, others []int) bool {
	for _, i := range p.Steps[step].Use {
		if s.Left[i] == 0 || !s.On[i] && !slices.Contains(others, i) {
			return true
		}
	}
	return false
}

// undoneNeed returns whether a step that a step needs is not done.
func undoneNeed(p api.CtPlan, s api.CtState, step int) bool {
	for _, i := range p.Steps[step].Need {
		if s.Ended[i] < 0 {
			return true
		}
	}
	return false
}

// reasonsOf returns the reasons of the table for an event, in its order, in a state with the charges at its tick.
func reasonsOf(p api.CtPlan, s api.CtState, v api.CtEvent) []reason {
	silent := func(step int) reason {
		return reason{p.Steps[step].Poll && slices.Contains(s.Go, false), api.CtErrPoll}
	}
	switch v.Kind {
	case api.CtBegin:
		return []reason{{s.Begun[v.What] >= 0, api.CtErrState}, {undoneNeed(p, s, v.What), api.CtErrNeed}, {s.Held, api.CtErrHeld}, silent(v.What), {unpowered(p, s, v.What, p.Steps[v.What].On), api.CtErrBattery}}
	case api.CtEnd:
		x, lasted := p.Steps[v.What], v.At-s.Begun[v.What]
		_, why := actsOf(p, s, v)
		return []reason{{s.Begun[v.What] < 0 || s.Ended[v.What] >= 0, api.CtErrState}, {lasted < x.Least || lasted > x.Most, api.CtErrLength}, silent(v.What), {unpowered(p, s, v.What, nil), api.CtErrBattery},
			{v.What+1 == len(p.Steps) && (v.At < p.Window.Lo || v.At > p.Window.Hi), api.CtErrWindow}, {why != api.OK, why}}
	case api.CtHold, api.CtResume:
		return []reason{{s.Held == (v.Kind == api.CtHold), api.CtErrState}}
	case api.CtGo, api.CtNoGo:
		return []reason{{s.Go[v.What] == (v.Kind == api.CtGo), api.CtErrState}}
	case api.CtRecycle:
		return []reason{{s.Begun[p.Points[v.What]] < 0, api.CtErrState}, {slices.Contains(s.Pad.Squibs, api.PdArmed), api.CtErrArmed}}
	case api.CtPerson:
		_, why := pad.Do(p.Pad, s.Pad, v.Act)
		return []reason{{why != api.OK, why}}
	}
	return []reason{{s.On[v.What], api.CtErrState}}
}

// actsOf returns the state of the pad after the acts of a step that ends, or the reason of the first one that is refused.
func actsOf(p api.CtPlan, s api.CtState, v api.CtEvent) (api.PdState, api.Errno) {
	x := s.Pad
	for _, a := range p.Steps[v.What].Acts {
		a.At = v.At
		next, why := pad.Do(p.Pad, x, a)
		if why != api.OK {
			return x, why
		}
		x = next
	}
	return x, api.OK
}

// leadsTo returns what an event that is not refused leads to, from a state with the charges at its tick.
func leadsTo(p api.CtPlan, s api.CtState, v api.CtEvent) api.CtState {
	s = cloneState(s)
	switch v.Kind {
	case api.CtBegin:
		s.Begun[v.What] = v.At
		for _, i := range p.Steps[v.What].On {
			s.On[i] = true
		}
	case api.CtEnd:
		s.Pad, _ = actsOf(p, s, v)
		s.Ended[v.What] = v.At
		for _, i := range p.Steps[v.What].Off {
			s.On[i] = false
		}
	case api.CtHold, api.CtResume:
		s.Held = v.Kind == api.CtHold
	case api.CtGo:
		s.Go[v.What] = true
	case api.CtNoGo:
		s.Go[v.What], s.Held = false, true
	case api.CtRecycle:
		for i := range p.Steps {
			if i >= p.Points[v.What] {
				s.Begun[i], s.Ended[i] = -1, -1
			}
		}
		s.Go, s.On, s.Held = make([]bool, len(s.Go)), make([]bool, len(s.On)), true
	case api.CtPerson:
		s.Pad, _ = pad.Do(p.Pad, s.Pad, v.Act)
	case api.CtCharge:
		s.Left[v.What] = p.Batteries[v.What].Charge
	}
	return s
}

// doOf returns what the definitions say of an event without an error in a state.
func doOf(p api.CtPlan, s api.CtState, v api.CtEvent) (api.CtState, api.Errno) {
	switch {
	case v.At < s.Now:
		return api.CtState{}, api.CtErrTime
	case s.Ended[len(p.Steps)-1] >= 0:
		return api.CtState{}, api.CtErrState
	}
	s = cloneState(s)
	s.Left, s.Now = leftOf(p, s, v.At), v.At
	for _, r := range reasonsOf(p, s, v) {
		if r.applies {
			return api.CtState{}, r.why
		}
	}
	return leadsTo(p, s, v), api.OK
}

// endOf returns the earliest end of a step.
func endOf(p api.CtPlan, s api.CtState, tick, step int) int {
	x := p.Steps[step]
	switch {
	case s.Ended[step] >= 0:
		return s.Ended[step]
	case s.Begun[step] >= 0:
		return max(tick, s.Begun[step]+x.Least)
	}
	from := tick
	for _, i := range x.Need {
		from = max(from, endOf(p, s, tick, i))
	}
	return from + x.Least
}

// needOf returns the steps that a step needs, and itself.
func needOf(p api.CtPlan, step int) map[int]bool {
	l := map[int]bool{step: true}
	for _, i := range p.Steps[step].Need {
		for j := range needOf(p, i) {
			l[j] = true
		}
	}
	return l
}

// earliestOf returns the earliest launch from a tick on, and whether it is possible.
func earliestOf(p api.CtPlan, s api.CtState, tick int) (int, bool) {
	last := len(p.Steps) - 1
	at := max(endOf(p, s, tick, last), p.Window.Lo)
	for i := range needOf(p, last) {
		runs, most := s.Begun[i] >= 0 && s.Ended[i] < 0, s.Begun[i]+p.Steps[i].Most
		if runs && (most < tick || i == last && most < at) {
			return 0, false
		}
	}
	return at, at <= p.Window.Hi
}

// lateOf returns the greatest tick from which on a launch is possible.
func lateOf(p api.CtPlan, s api.CtState) int {
	for tick := p.Window.Hi; tick >= s.Now; tick-- {
		if _, possible := earliestOf(p, s, tick); possible {
			return tick
		}
	}
	return -1
}

// lastsOf returns the first tick at which each battery is empty, if it stays on.
func lastsOf(p api.CtPlan, s api.CtState) []int {
	l := make([]int, len(p.Batteries))
	for i := range l {
		for l[i] = s.Now; s.On[i] && leftOf(p, s, l[i])[i] > 0; l[i]++ {
		}
		if !s.On[i] {
			l[i] = -1
		}
	}
	return l
}

// waysOf returns all lists of steps, each of them needed by the one after it, that end with a step, and begin with one that needs none; from the last step on.
func waysOf(p api.CtPlan, step int) (l [][]int) {
	if len(p.Steps[step].Need) == 0 {
		return [][]int{{step}}
	}
	for _, i := range p.Steps[step].Need {
		for _, way := range waysOf(p, i) {
			l = append(l, append([]int{step}, way...))
		}
	}
	return l
}

// pathOf returns the first one of the longest ways, and its length.
func pathOf(p api.CtPlan) (path []int, longest int) {
	longest = -1
	for _, way := range waysOf(p, len(p.Steps)-1) {
		sum := 0
		for _, i := range way {
			sum += p.Steps[i].Least
		}
		if sum > longest || sum == longest && slices.Compare(way, path) < 0 {
			path, longest = way, sum
		}
	}
	slices.Reverse(path)
	return path, longest
}

// P8.2
func TestPlayAsDefined(t *testing.T) {
	r := rand.New(rand.NewSource(82))
	n := [10]map[api.Errno]int{}
	for i := range n {
		n[i] = map[api.Errno]int{}
	}
	for range 6000 {
		p, log, states := day(r)
		after, why, e := count.Play(p, log)
		if !sameState(after, states[len(log)]) || len(why) != len(log) || e != api.OK {
			t.Fatalf("Play of %v by %v = %v, %v, %d, and not %v", log, p, after, why, e, states[len(log)])
		}
		for i, v := range log {
			if _, want := doOf(p, states[i], v); why[i] != want {
				t.Fatalf("%v is refused for %d and not %d in %v in %v", v, why[i], want, states[i], p)
			}
			n[v.Kind][why[i]]++
		}
	}
	for kind, l := range [10][]api.Errno{
		api.CtBegin: {api.CtErrNeed, api.CtErrHeld, api.CtErrPoll, api.CtErrBattery}, api.CtEnd: {api.CtErrLength, api.CtErrPoll, api.CtErrBattery, api.CtErrWindow, api.PdErrFar, api.PdErrKey, api.PdErrState},
		api.CtRecycle: {api.CtErrArmed}, api.CtPerson: {api.PdErrFar, api.PdErrBadge, api.PdErrStorm, api.PdErrKey, api.PdErrState, api.PdErrSiren}, api.CtCharge: {},
	} {
		for _, why := range append(l, api.OK, api.CtErrTime, api.CtErrState) {
			if kind > 0 && n[kind][why] < 20 {
				t.Errorf("events of the kind %d are refused for %d only %d times", kind, why, n[kind][why])
			}
		}
	}
}

// P8.3, P8.4, P8.5
func TestAnswersAsDefined(t *testing.T) {
	r := rand.New(rand.NewSource(83))
	n := map[string]int{}
	for range 7000 {
		p, log, states := day(r)
		s := states[len(log)]
		tick := s.Now + r.Intn(30)
		var ready []int
		for i := range p.Steps {
			if _, why := doOf(p, s, begin(tick, i)); why == api.OK {
				ready = append(ready, i)
			}
		}
		if l, e := count.Ready(p, log, tick); !slices.Equal(l, ready) || e != api.OK {
			t.Fatalf("Ready at %d in %v in %v = %v, %d, and not %v", tick, s, p, l, e, ready)
		}
		n["ready"] += len(ready)
		if l, e := count.Lasts(p, log); !slices.Equal(l, lastsOf(p, s)) || e != api.OK {
			t.Fatalf("Lasts in %v in %v = %v, %d, and not %v", s, p, l, e, lastsOf(p, s))
		}
		earliest, possible := earliestOf(p, s, tick)
		late, want := lateOf(p, s), api.OK
		switch {
		case s.Ended[len(p.Steps)-1] >= 0:
			earliest, late, want, possible = 0, 0, api.ErrDown, false
			n["launched"]++
		case !possible:
			earliest = 0
			n["impossible"]++
		default:
			n["possible"]++
		}
		if at, e := count.Earliest(p, log, tick); at != earliest || (e == api.OK) != possible || !possible && e != api.ErrDown {
			t.Fatalf("Earliest at %d in %v in %v = %d, %d, and not %d", tick, s, p, at, e, earliest)
		}
		if at, e := count.Late(p, log); at != late || e != want {
			t.Fatalf("Late in %v in %v = %d, %d, and not %d, %d", s, p, at, e, late, want)
		}
		if late > s.Now {
			n["late"]++
		}
	}
	for _, what := range []string{"ready", "launched", "impossible", "possible", "late"} {
		if n[what] < 200 {
			t.Errorf("%s: %d", what, n[what])
		}
	}
}

// P8.6
func TestPathAsDefined(t *testing.T) {
	r := rand.New(rand.NewSource(86))
	several := 0
	for range 10000 {
		p := randomPlan(r)
		if r.Intn(2) == 0 {
			for i := range p.Steps {
				p.Steps[i].Least, p.Steps[i].Most = r.Intn(3), 20
			}
		}
		want, _ := pathOf(p)
		if l, e := count.Path(p); !slices.Equal(l, want) || e != api.OK {
			t.Fatalf("Path of %v = %v, %d, and not %v", p, l, e, want)
		}
		if len(waysOf(p, len(p.Steps)-1)) > 2 {
			several++
		}
	}
	if several < 2000 {
		t.Errorf("%d have several ways", several)
	}
}
