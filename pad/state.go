package pad

import (
	"iter"
	"slices"

	"hangfire/api"
)

// scene is a pad in a state.
type scene struct {
	api.PdState
	pad api.PdPad
}

// exists reports whether the state is one of the pad, sound or not.
func (s scene) exists() bool {
	noZone := func(i int) bool { return !hasOr(s.pad.Zones, i, outside) }
	noHolder := func(i int) bool { return !hasOr(s.pad.People, i, inPanel) }
	noKind := func(i int) bool { return !isIn(i, api.PdSafe, api.PdFired) }
	switch {
	case len(s.Zones) != len(s.pad.People), len(s.Holder) != len(s.pad.Keys), len(s.Squibs) != len(s.pad.Squibs):
		return false
	case slices.ContainsFunc(s.Zones, noZone), slices.ContainsFunc(s.Holder, noHolder), slices.ContainsFunc(s.Squibs, noKind):
		return false
	}
	return isTick(s.Now) && (s.Siren == off || isIn(s.Siren, 0, s.Now))
}

// sound reports whether the state is sound.
func (s scene) sound() bool {
	for i := range s.pad.Zones {
		if s.full(i) || s.lonely(i) {
			return false
		}
	}
	for person, zone := range s.Zones {
		if s.low(person, zone) || s.keyless(person, zone) {
			return false
		}
	}
	for i := range s.Squibs {
		if s.armed(i) && (len(s.owed(i)) > 0 || s.Siren == off || s.Storm) {
			return false
		}
	}
	return true
}

// count returns how many people are in a zone.
func (s scene) count(zone int) int {
	n := 0
	for _, there := range s.Zones {
		if there == zone {
			n++
		}
	}
	return n
}

// full reports whether there are more people in a zone than there is room for.
func (s scene) full(zone int) bool { return zone != outside && s.count(zone) > s.pad.Zones[zone].Room }

// lonely reports whether there is just one person in a zone where nobody may be alone.
func (s scene) lonely(zone int) bool {
	return zone != outside && s.pad.Zones[zone].Pair && s.count(zone) == 1
}

// low reports whether the grade of a person is below that of a zone.
func (s scene) low(person, zone int) bool {
	return zone != outside && s.pad.People[person].Grade < s.pad.Zones[zone].Grade
}

// threats yields the squibs that are not fired and that a zone is near, ascending.
func (s scene) threats(zone int) iter.Seq[int] {
	return func(yield func(int) bool) {
		if zone == outside {
			return
		}
		for i, is := range s.Squibs {
			if is != api.PdFired && isNear(s.pad, zone, i) && !yield(i) {
				return
			}
		}
	}
}

// threatened reports whether a zone is near a squib that is not fired.
func (s scene) threatened(zone int) bool {
	for range s.threats(zone) {
		return true
	}
	return false
}

// keyless reports whether a person does not hold a key of some squib that is not fired and that a zone is near.
func (s scene) keyless(person, zone int) bool {
	for i := range s.threats(zone) {
		if !s.inhibits(person, i) {
			return true
		}
	}
	return false
}

// inhibits reports whether a person holds a key of a squib.
func (s scene) inhibits(person, squib int) bool {
	return slices.ContainsFunc(s.pad.Squibs[squib].Keys, func(key int) bool { return s.Holder[key] == person })
}

// owed returns the keys of a squib that are not in the panel.
func (s scene) owed(squib int) []int {
	var l []int
	for _, key := range s.pad.Squibs[squib].Keys {
		if s.Holder[key] != inPanel {
			l = append(l, key)
		}
	}
	return l
}

// armed reports whether a squib is armed.
func (s scene) armed(squib int) bool { return s.Squibs[squib] == api.PdArmed }

// dangers returns the squibs that are armed, each with all people near it.
func (s scene) dangers() []api.PdDanger {
	var l []api.PdDanger
	for i := range s.Squibs {
		for person, zone := range s.Zones {
			if s.armed(i) && zone != outside && isNear(s.pad, zone, i) {
				l = append(l, api.PdDanger{Squib: i, Person: person})
			}
		}
	}
	return l
}

// newScene returns the scene of a pad and a state that is sound, or the first error of both.
func newScene(p api.PdPad, s api.PdState) (scene, api.Errno) {
	if _, _, e := Check(p); e != api.OK {
		return scene{}, e
	}
	c := scene{PdState: s, pad: p}
	if !c.exists() || !c.sound() {
		return scene{}, api.ErrForm
	}
	return c, api.OK
}

// clone returns a state that shares no memory with another one.
func clone(s api.PdState) api.PdState {
	s.Zones, s.Holder, s.Squibs = slices.Clone(s.Zones), slices.Clone(s.Holder), slices.Clone(s.Squibs)
	return s
}

// Start returns the first state.
func Start(p api.PdPad) (api.PdState, api.Errno) {
	if _, _, e := Check(p); e != api.OK {
		return api.PdState{}, e
	}
	return api.PdState{
		Zones:  slices.Repeat([]int{outside}, len(p.People)),
		Holder: slices.Repeat([]int{inPanel}, len(p.Keys)),
		Squibs: slices.Repeat([]int{api.PdSafe}, len(p.Squibs)),
		Siren:  off,
	}, api.OK
}

// CheckState returns the error of a state.
func CheckState(p api.PdPad, s api.PdState) api.Errno {
	_, e := newScene(p, s)
	return e
}

// Danger returns the squibs that are armed while people are near them.
func Danger(p api.PdPad, s api.PdState) ([]api.PdDanger, api.Errno) {
	if _, _, e := Check(p); e != api.OK {
		return nil, e
	}
	c := scene{PdState: s, pad: p}
	if !c.exists() {
		return nil, api.ErrForm
	}
	return c.dangers(), api.OK
}

// Owed returns the keys of a squib that are not in the panel.
func Owed(p api.PdPad, s api.PdState, squib int) ([]int, api.Errno) {
	c, e := newScene(p, s)
	if e != api.OK {
		return nil, e
	}
	if !has(p.Squibs, squib) {
		return nil, api.ErrNone
	}
	return c.owed(squib), api.OK
}
