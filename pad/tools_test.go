package pad_test

import (
	"math"
	"math/rand"
	"slices"

	"hangfire/api"
	"hangfire/pad"
)

// What the pad of the examples has.
const (
	bunker, road, rail = 0, 1, 2
	ann, bob, eve      = 0, 1, 2
	red, blue, grey    = 0, 1, 2
	motor, chute       = 0, 1
)

const far = 10000000 // a place on the pad

func span(lo, hi int) api.Span { return api.Span{Lo: lo, Hi: hi} }

func area(a, b, c, d int) api.Area { return api.Area{X: span(a, b), Y: span(c, d)} }

// example is the pad P of the chapter's examples.
func example() api.PdPad {
	return api.PdPad{
		Zones: []api.PdZone{
			{Name: "bunker", Area: area(-500000, -400000, 0, 50000), Room: 8},
			{Name: "road", Area: area(-300000, -100000, -10000, 10000), Grade: 1, Room: 4},
			{Name: "rail", Area: area(-5000, 5000, -5000, 5000), Grade: 2, Room: 2, Pair: true},
		},
		Doors:  []api.PdDoor{{A: bunker, B: -1}, {A: bunker, B: road}, {A: road, B: rail}},
		People: []api.PdPerson{{Name: "ann", Grade: 5}, {Name: "bob", Grade: 2}, {Name: "eve", Grade: 1}},
		Keys:   []string{"red", "blue", "grey"},
		Squibs: []api.PdSquib{
			{Name: "motor", Clear: 100000, Grade: 5, Keys: []int{red, blue}},
			{Name: "chute", At: api.Place{Y: 3000}, Clear: 20000, Grade: 3, Keys: []int{grey}},
		},
		Wait: 100,
	}
}

// first is the first state of this pad.
func first() api.PdState {
	return api.PdState{Zones: []int{-1, -1, -1}, Holder: []int{-1, -1, -1}, Squibs: []int{0, 0}, Siren: -1}
}

// in returns the first state of this pad, but with people in zones.
func in(zones ...int) api.PdState {
	s := first()
	s.Zones = zones
	return s
}

// holding returns a state in which people (or the panel) hold the keys.
func holding(s api.PdState, holder ...int) api.PdState {
	s.Holder = holder
	return s
}

// with returns a state in which something is changed.
func with(s api.PdState, change func(s *api.PdState)) api.PdState {
	s = cloneState(s)
	change(&s)
	return s
}

// move, alone and act return acts.
func move(at, who, zone, with int) api.PdAct {
	return api.PdAct{At: at, Kind: api.PdMove, Who: who, What: zone, With: with}
}

func alone(at, who, zone int) api.PdAct { return move(at, who, zone, -1) }

func act(at, kind, who, what int) api.PdAct {
	return api.PdAct{At: at, Kind: kind, Who: who, What: what, With: -1}
}

func give(at, who, key, with int) api.PdAct {
	return api.PdAct{At: at, Kind: api.PdGive, Who: who, What: key, With: with}
}

func clonePad(p api.PdPad) api.PdPad {
	p.Zones, p.Doors, p.People, p.Keys, p.Squibs = slices.Clone(p.Zones), slices.Clone(p.Doors), slices.Clone(p.People), slices.Clone(p.Keys), slices.Clone(p.Squibs)
	for i := range p.Squibs {
		p.Squibs[i].Keys = slices.Clone(p.Squibs[i].Keys)
	}
	return p
}

func cloneState(s api.PdState) api.PdState {
	s.Zones, s.Holder, s.Squibs = slices.Clone(s.Zones), slices.Clone(s.Holder), slices.Clone(s.Squibs)
	return s
}

func samePad(a, b api.PdPad) bool {
	same := func(a, b api.PdSquib) bool {
		return a.Name == b.Name && a.At == b.At && a.Clear == b.Clear && a.Grade == b.Grade && slices.Equal(a.Keys, b.Keys)
	}
	return slices.Equal(a.Zones, b.Zones) && slices.Equal(a.Doors, b.Doors) && slices.Equal(a.People, b.People) && slices.Equal(a.Keys, b.Keys) &&
		slices.EqualFunc(a.Squibs, b.Squibs, same) && a.Panel == b.Panel && a.Wait == b.Wait
}

func sameState(a, b api.PdState) bool {
	return a.Now == b.Now && slices.Equal(a.Zones, b.Zones) && slices.Equal(a.Holder, b.Holder) && slices.Equal(a.Squibs, b.Squibs) && a.Siren == b.Siren && a.Storm == b.Storm
}

// isZero reports whether a state is the zero value.
func isZero(s api.PdState) bool { return sameState(s, api.PdState{}) }

// pick returns one of some numbers.
func pick(r *rand.Rand, l ...int) int { return l[r.Intn(len(l))] }

// randomPad returns a pad without an error, whose places are few, so that many zones are just near a squib, or just not.
func randomPad(r *rand.Rand) api.PdPad {
	p := api.PdPad{Wait: r.Intn(8)}
	for i := range pick(r, 1, 2, 2, 3, 3, 4, 6, 8) {
		x, y := r.Intn(31)-15, r.Intn(31)-15
		p.Zones = append(p.Zones, api.PdZone{Name: "zone-" + string(rune('a'+i)), Area: area(x, x+r.Intn(5), y, y+r.Intn(5)), Grade: pick(r, 0, 0, 0, 1, 2), Room: 1 + r.Intn(5), Pair: r.Intn(4) == 0})
	}
	p.Panel = r.Intn(len(p.Zones))
	p.Zones[p.Panel].Area.X = span(100, 110)
	for range r.Intn(10) {
		d := api.PdDoor{A: r.Intn(len(p.Zones)+1) - 1, B: r.Intn(len(p.Zones)+1) - 1}
		if d.A != d.B {
			p.Doors = append(p.Doors, d)
		}
	}
	p.Doors = append(p.Doors, api.PdDoor{A: -1, B: p.Panel})
	for i := range p.Zones {
		if i != p.Panel && r.Intn(2) == 0 {
			p.Doors = append(p.Doors, api.PdDoor{A: i, B: p.Panel})
		}
	}
	for i := range pick(r, 0, 1, 2, 3, 4, 5, 6, 7) {
		p.People = append(p.People, api.PdPerson{Name: "p" + string(rune('a'+i)), Grade: pick(r, 0, 1, 2, 3, 3, 3)})
	}
	for i := range pick(r, 0, 1, 3, 4, 5, 6) {
		p.Keys = append(p.Keys, "k"+string(rune('a'+i)))
	}
	for i := range pick(r, 0, 1, 1, 1, 2, 2, 3, 5) {
		q := api.PdSquib{Name: "q" + string(rune('a'+i)), At: api.Place{X: r.Intn(31) - 15, Y: r.Intn(31) - 15}, Clear: r.Intn(20), Grade: r.Intn(3)}
		for key := range p.Keys {
			if r.Intn(2) == 0 {
				q.Keys = append(q.Keys, key)
			}
		}
		if len(q.Keys) > 0 {
			p.Squibs = append(p.Squibs, q)
		}
	}
	return p
}

// guess returns an act without an error, if there is a person; often one that means something in a state.
func guess(r *rand.Rand, p api.PdPad, s api.PdState) api.PdAct {
	a := api.PdAct{At: s.Now + pick(r, 0, 0, 1, 1, 2, 5, -1), Kind: 1 + r.Intn(9), Who: r.Intn(len(p.People)), With: -1}
	a.At = min(max(a.At, 0), api.MaxTick)
	if r.Intn(2) == 0 || a.Kind == api.PdThunder && !s.Storm && r.Intn(4) > 0 { // storms are short
		a.Kind = pick(r, api.PdMove, api.PdMove, api.PdTake, api.PdArm)
	}
	n := []int{1: len(p.Zones), len(p.Keys), len(p.Keys), len(p.Keys), len(p.Squibs), len(p.Squibs), len(p.Squibs), 2, 2}[a.Kind]
	if n == 0 || a.Kind == api.PdGive && len(p.People) == 1 {
		return guess(r, p, s)
	}
	a.What = r.Intn(n)
	switch a.Kind {
	case api.PdMove:
		a.What = r.Intn(n+1) - 1
		if len(p.People) > 1 && r.Intn(2) == 0 {
			a.With = other(r, s, a.Who)
		}
	case api.PdGive:
		if i := s.Holder[a.What]; i >= 0 && r.Intn(4) > 0 {
			a.Who = i
		}
		a.With = other(r, s, a.Who)
	default:
		if i := slices.Index(s.Zones, p.Panel); i >= 0 && r.Intn(2) == 0 {
			a.Who = i
		}
	}
	return a
}

// other returns another person, most often one who is in the same zone, if there is one.
func other(r *rand.Rand, s api.PdState, who int) int {
	i := who
	for n := 0; i == who || n < 5 && s.Zones[i] != s.Zones[who]; n++ {
		i = r.Intn(len(s.Zones))
	}
	return i
}

// likely returns an act as guess does, but most often one that is not refused.
func likely(r *rand.Rand, p api.PdPad, s api.PdState) api.PdAct {
	a := guess(r, p, s)
	for range r.Intn(12) {
		if _, e := pad.Do(p, s, a); e == api.OK {
			break
		}
		a = guess(r, p, s)
	}
	return a
}

// walk returns acts, one after the other from a state, and the states before each of them and after the last one. If there are no people, there are no acts.
func walk(r *rand.Rand, p api.PdPad, s api.PdState, n int) ([]api.PdAct, []api.PdState) {
	l, states := []api.PdAct(nil), []api.PdState{s}
	if len(p.People) == 0 {
		return l, states
	}
	for range n {
		a := likely(r, p, s)
		if next, e := pad.Do(p, s, a); e == api.OK {
			s = next
		}
		l, states = append(l, a), append(states, s)
	}
	return l, states
}

// anyState returns a state of a pad, often one that is not sound.
func anyState(r *rand.Rand, p api.PdPad) api.PdState {
	s := api.PdState{Now: r.Intn(20), Storm: r.Intn(4) == 0}
	s.Siren = pick(r, -1, 0, r.Intn(s.Now+1))
	for range p.People {
		s.Zones = append(s.Zones, pick(r, -1, p.Panel, r.Intn(len(p.Zones))))
	}
	for range p.Keys {
		s.Holder = append(s.Holder, pick(r, -1, r.Intn(len(p.People)+1)-1))
	}
	for range p.Squibs {
		s.Squibs = append(s.Squibs, pick(r, 0, 0, 1, 2))
	}
	return s
}

// crew puts some people of a state into a zone, each with a key of each squib there that is not fired, as far as there are keys for them.
func crew(r *rand.Rand, p api.PdPad, s *api.PdState, zone int) {
	for i := range s.Zones {
		if s.Zones[i] = pick(r, -1, zone, zone); s.Zones[i] == zone {
			for _, squib := range nearsOf(p, *s, zone) {
				l := p.Squibs[squib].Keys
				s.Holder[l[r.Intn(len(l))]] = i
			}
		}
	}
}

// anySound returns a state of a pad that is sound, if it finds one; otherwise the first one. It looks for one in which somebody is near a squib, or, sometimes, a squib is armed.
func anySound(r *rand.Rand, p api.PdPad) api.PdState {
	found, _ := pad.Start(p)
	wanted := r.Intn(3)
	for range 60 {
		s := anyState(r, p)
		if wanted > 0 {
			crew(r, p, &s, r.Intn(len(p.Zones)))
		}
		if pad.CheckState(p, s) != api.OK {
			continue
		}
		found = s
		if wanted == 0 && slices.Contains(s.Squibs, api.PdArmed) || slices.ContainsFunc(s.Zones, func(zone int) bool { return len(nearsOf(p, s, zone)) > 0 }) {
			break
		}
	}
	return found
}

// odd returns a number that is often beyond all limits.
func odd(r *rand.Rand) int {
	return pick(r, math.MinInt, math.MinInt+1, -far-1, -far, -2, -1, 0, 1, 2, 3, 8, 9, 10, 6000, 6001, api.MaxTick, api.MaxTick+1, far, far+1, math.MaxInt-1, math.MaxInt, r.Intn(20), int(r.Uint64()))
}

// change sets some of the numbers to odd ones.
func change(r *rand.Rand, numbers ...*int) {
	for range r.Intn(3) {
		*numbers[r.Intn(len(numbers))] = odd(r)
	}
}
