package pad_test

import (
	"math/rand"
	"slices"
	"testing"

	"hangfire/api"
	"hangfire/pad"
)

// This file reads the definitions a second time: place by place, and by what an act leads to, whether it is refused or not.

// nearOf returns whether some place of a zone is less far from a squib than it has to be.
func nearOf(p api.PdPad, zone, squib int) bool {
	if zone < 0 {
		return false
	}
	a, q := p.Zones[zone].Area, p.Squibs[squib]
	for x := a.X.Lo; x <= a.X.Hi; x++ {
		for y := a.Y.Lo; y <= a.Y.Hi; y++ {
			east, north := x-q.At.X, y-q.At.Y
			if east*east+north*north < q.Clear*q.Clear {
				return true
			}
		}
	}
	return false
}

// nearsOf returns the squibs that are not fired and that a zone is near.
func nearsOf(p api.PdPad, s api.PdState, zone int) (l []int) {
	for i := range p.Squibs {
		if s.Squibs[i] != api.PdFired && nearOf(p, zone, i) {
			l = append(l, i)
		}
	}
	return l
}

// lacksOf returns whether a person in a zone would hold no key of a squib that is not fired and that the zone is near.
func lacksOf(p api.PdPad, s api.PdState, person, zone int) bool {
	for _, i := range nearsOf(p, s, zone) {
		held := 0
		for _, key := range p.Squibs[i].Keys {
			if s.Holder[key] == person {
				held++
			}
		}
		if held == 0 {
			return true
		}
	}
	return false
}

// headsOf returns how many people are in each zone.
func headsOf(s api.PdState) map[int]int {
	n := map[int]int{}
	for _, zone := range s.Zones {
		n[zone]++
	}
	return n
}

// homeOf returns whether all keys of a squib are in the panel.
func homeOf(p api.PdPad, s api.PdState, squib int) bool {
	for _, key := range p.Squibs[squib].Keys {
		if s.Holder[key] >= 0 {
			return false
		}
	}
	return true
}

// soundOf returns whether a state of a pad is sound.
func soundOf(p api.PdPad, s api.PdState) bool {
	for zone, n := range headsOf(s) {
		if zone >= 0 && (n > p.Zones[zone].Room || n == 1 && p.Zones[zone].Pair) {
			return false
		}
	}
	for i, zone := range s.Zones {
		if zone >= 0 && p.People[i].Grade < p.Zones[zone].Grade || lacksOf(p, s, i, zone) {
			return false
		}
	}
	for i, is := range s.Squibs {
		if is == api.PdArmed && !(homeOf(p, s, i) && s.Siren >= 0 && !s.Storm) {
			return false
		}
	}
	return true
}

// dangersOf returns the dangers of a state.
func dangersOf(p api.PdPad, s api.PdState) (l []api.PdDanger) {
	for i, is := range s.Squibs {
		for j, zone := range s.Zones {
			if is == api.PdArmed && nearOf(p, zone, i) {
				l = append(l, api.PdDanger{Squib: i, Person: j})
			}
		}
	}
	return l
}

// leadsTo returns what an act leads to, if it is not refused.
func leadsTo(s api.PdState, a api.PdAct) api.PdState {
	s = cloneState(s)
	s.Now = a.At
	switch a.Kind {
	case api.PdMove:
		s.Zones[a.Who] = a.What
		if a.With >= 0 {
			s.Zones[a.With] = a.What
		}
	case api.PdTake:
		s.Holder[a.What] = a.Who
	case api.PdPut:
		s.Holder[a.What] = -1
	case api.PdGive:
		s.Holder[a.What] = a.With
	case api.PdArm, api.PdDisarm, api.PdFire:
		s.Squibs[a.What] = map[int]int{api.PdArm: api.PdArmed, api.PdDisarm: api.PdSafe, api.PdFire: api.PdFired}[a.Kind]
	case api.PdSound:
		s.Siren = []int{-1, a.At}[a.What]
	case api.PdThunder:
		s.Storm = a.What == 1
		for i, is := range s.Squibs {
			if s.Storm && is == api.PdArmed {
				s.Squibs[i] = api.PdSafe
			}
		}
	}
	return s
}

// reason is one of the table, and whether it applies.
type reason struct {
	applies bool
	why     api.Errno
}

// reasonsOf returns the reasons of the table for an act, in its order.
func reasonsOf(p api.PdPad, s api.PdState, a api.PdAct) []reason {
	after := leadsTo(s, a)
	away := reason{s.Zones[a.Who] != p.Panel, api.PdErrFar}
	kept := func(who int) bool { return s.Holder[a.What] == who }
	below := func() bool { return p.People[a.Who].Grade < p.Squibs[a.What].Grade }
	is := func() int { return s.Squibs[a.What] }
	so := func(on bool) reason { return reason{on == (a.What == 1), api.PdErrState} }
	switch a.Kind {
	case api.PdMove:
		return moveReasons(p, s, a, after)
	case api.PdTake:
		locked := false
		for i := range p.Squibs {
			locked = locked || s.Squibs[i] == api.PdArmed && homeOf(p, s, i) && !homeOf(p, after, i)
		}
		return []reason{away, {!kept(-1), api.PdErrKey}, {locked, api.PdErrState}}
	case api.PdPut:
		return []reason{away, {!kept(a.Who), api.PdErrKey}}
	case api.PdGive:
		return []reason{{!kept(a.Who), api.PdErrKey}, {s.Zones[a.With] != s.Zones[a.Who], api.PdErrFar}, {lacksOf(p, after, a.Who, s.Zones[a.Who]), api.PdErrNear}}
	case api.PdArm:
		return []reason{away, {below(), api.PdErrBadge}, {is() != api.PdSafe, api.PdErrState}, {s.Storm, api.PdErrStorm}, {!homeOf(p, s, a.What), api.PdErrKey}, {s.Siren < 0 || s.Siren+p.Wait > a.At, api.PdErrSiren}}
	case api.PdDisarm:
		return []reason{away, {is() != api.PdArmed, api.PdErrState}}
	case api.PdFire:
		return []reason{away, {below(), api.PdErrBadge}, {is() != api.PdArmed, api.PdErrState}}
	case api.PdSound:
		return []reason{away, so(s.Siren >= 0), {a.What == 0 && slices.Contains(s.Squibs, api.PdArmed), api.PdErrSiren}}
	}
	return []reason{so(s.Storm)}
}

// moveReasons returns the reasons for a move, by the state after it.
func moveReasons(p api.PdPad, s api.PdState, a api.PdAct, after api.PdState) []reason {
	from, door := s.Zones[a.Who], false
	for _, d := range p.Doors {
		door = door || d.A == from && d.B == a.What || d.B == from && d.A == a.What
	}
	l := []reason{{!door || a.With >= 0 && s.Zones[a.With] != from, api.PdErrFar}}
	for _, i := range []int{a.Who, a.With} {
		if i >= 0 {
			l = append(l, reason{a.What >= 0 && p.People[i].Grade < p.Zones[max(a.What, 0)].Grade, api.PdErrBadge},
				reason{s.Storm && len(nearsOf(p, s, a.What)) > 0, api.PdErrStorm}, reason{lacksOf(p, s, i, a.What), api.PdErrKey})
		}
	}
	heads := headsOf(after)
	single := func(zone int) bool { return zone >= 0 && p.Zones[zone].Pair && heads[zone] == 1 }
	full := a.What >= 0 && heads[a.What] > p.Zones[max(a.What, 0)].Room
	return append(l, reason{full, api.PdErrFull}, reason{single(a.What) || single(from), api.PdErrPair})
}

// doOf returns what the definitions say of an act without an error in a state that is sound.
func doOf(p api.PdPad, s api.PdState, a api.PdAct) (api.PdState, api.Errno) {
	for _, r := range append([]reason{{a.At < s.Now, api.PdErrTime}}, reasonsOf(p, s, a)...) {
		if r.applies {
			return api.PdState{}, r.why
		}
	}
	return leadsTo(s, a), api.OK
}

// P7.2
func TestNearAsDefined(t *testing.T) {
	r := rand.New(rand.NewSource(72))
	count := map[bool]int{}
	for range 3000 {
		p := randomPad(r)
		for zone := range p.Zones {
			for squib := range p.Squibs {
				near, e := pad.Near(p, zone, squib)
				if near != nearOf(p, zone, squib) || e != api.OK {
					t.Fatalf("Near of %v and %v = %t, %d", p.Zones[zone], p.Squibs[squib], near, e)
				}
				count[near]++
			}
		}
	}
	if count[true] < 2000 || count[false] < 2000 {
		t.Errorf("%v", count)
	}
}

// P7.3, P7.6, P7.7
func TestStatesAsDefined(t *testing.T) {
	r := rand.New(rand.NewSource(73))
	sound, dangers := map[bool]int{}, 0
	for range 20000 {
		p := randomPad(r)
		s := anyState(r, p)
		e := pad.CheckState(p, s)
		if (e == api.OK) != soundOf(p, s) || e != api.OK && e != api.ErrForm {
			t.Fatalf("CheckState of %v in %v = %d", s, p, e)
		}
		sound[e == api.OK]++
		l, f := pad.Danger(p, s)
		if !slices.Equal(l, dangersOf(p, s)) || f != api.OK {
			t.Fatalf("Danger of %v in %v = %v, %d", s, p, l, f)
		}
		dangers += len(l)
		for i := range p.Squibs {
			if l, f := pad.Owed(p, s, i); f != e || e == api.OK && (len(l) == 0) != homeOf(p, s, i) {
				t.Fatalf("Owed of %d in %v in %v = %v, %d", i, s, p, l, f)
			}
		}
	}
	if sound[true] < 1000 || sound[false] < 1000 || dangers < 500 {
		t.Errorf("%v, %d", sound, dangers)
	}
}

// P7.4, P7.5, P7.8
func TestActsAsDefined(t *testing.T) {
	r := rand.New(rand.NewSource(74))
	count := [10]map[api.Errno]int{}
	for i := range count {
		count[i] = map[api.Errno]int{}
	}
	for range 4000 {
		p := randomPad(r)
		l, states := walk(r, p, anySound(r, p), r.Intn(60))
		after, why, e := pad.Play(p, states[0], l)
		if !sameState(after, states[len(l)]) || len(why) != len(l) || e != api.OK {
			t.Fatalf("Play of %v in %v = %v, %v, %d", l, p, after, why, e)
		}
		for i, a := range l {
			want, reason := doOf(p, states[i], a)
			after, e := pad.Do(p, states[i], a)
			if !sameState(after, want) || e != reason || e != why[i] {
				t.Fatalf("Do of %v in %v in %v = %v, %d, and not %v, %d", a, states[i], p, after, e, want, reason)
			}
			count[a.Kind][e]++
		}
		mayAsDefined(t, p, states[len(l)])
	}
	for kind, l := range [10][]api.Errno{
		api.PdMove: {api.PdErrFar, api.PdErrBadge, api.PdErrStorm, api.PdErrKey, api.PdErrFull, api.PdErrPair}, api.PdTake: {api.PdErrFar, api.PdErrKey, api.PdErrState}, api.PdPut: {api.PdErrFar, api.PdErrKey},
		api.PdGive: {api.PdErrKey, api.PdErrFar, api.PdErrNear}, api.PdArm: {api.PdErrFar, api.PdErrBadge, api.PdErrState, api.PdErrStorm, api.PdErrKey, api.PdErrSiren}, api.PdDisarm: {api.PdErrFar, api.PdErrState},
		api.PdFire: {api.PdErrFar, api.PdErrBadge, api.PdErrState}, api.PdSound: {api.PdErrFar, api.PdErrState, api.PdErrSiren}, api.PdThunder: {api.PdErrState},
	} {
		for _, why := range append(l, api.OK, api.PdErrTime) {
			if kind > 0 && count[kind][why] < 20 {
				t.Errorf("acts of the kind %d are refused for %d only %d times", kind, why, count[kind][why])
			}
		}
	}
}

// mayAsDefined checks for each zone who may go there alone.
func mayAsDefined(t *testing.T, p api.PdPad, s api.PdState) {
	t.Helper()
	for zone := -1; zone < len(p.Zones); zone++ {
		var want []int
		for i := range p.People {
			if _, why := doOf(p, s, alone(s.Now, i, zone)); why == api.OK {
				want = append(want, i)
			}
		}
		if l, e := pad.May(p, s, zone); !slices.Equal(l, want) || e != api.OK {
			t.Fatalf("May of %d in %v in %v = %v, %d", zone, s, p, l, e)
		}
	}
}
