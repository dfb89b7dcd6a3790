package pad

import (
	"slices"

	"hangfire/api"
	"hangfire/wind"
)

// Check returns the part, the index in it and the error of a pad.
func Check(p api.PdPad) (part, at int, e api.Errno) {
	if !isIn(len(p.Zones), 1, api.MaxPdZones) || len(p.Doors) > api.MaxPdDoors || len(p.People) > api.MaxPdPeople || len(p.Keys) > api.MaxPdKeys || len(p.Squibs) > api.MaxPdSquibs {
		return 1, 0, api.ErrLong
	}
	parts := [...]func(api.PdPad) (int, api.Errno){2: checkZones, checkDoors, checkPeople, checkKeys, checkSquibs, checkPanel}
	for part := 2; part < len(parts); part++ {
		if at, e := parts[part](p); e != api.OK {
			return part, at, e
		}
	}
	return 0, 0, api.OK
}

// checkNamed returns the first element with an error: that of its name, or what the rest of it is wrong by.
func checkNamed[T any](l []T, name func(T) string, rest func(T) api.Errno) (at int, e api.Errno) {
	for i, x := range l {
		same := func(before T) bool { return name(before) == name(x) }
		switch {
		case !wind.Name(name(x)):
			return i, api.ErrForm
		case slices.ContainsFunc(l[:i], same):
			return i, api.ErrTwice
		}
		if e := rest(x); e != api.OK {
			return i, e
		}
	}
	return 0, api.OK
}

func checkZones(p api.PdPad) (at int, e api.Errno) {
	return checkNamed(p.Zones, func(z api.PdZone) string { return z.Name }, checkZone)
}

// checkZone returns the error of a zone whose name has none.
func checkZone(z api.PdZone) api.Errno {
	if !isHere(z.Area.X) || !isHere(z.Area.Y) || !isGrade(z.Grade) || !isIn(z.Room, 1, api.MaxPdPeople) {
		return api.ErrRange
	}
	return api.OK
}

func checkDoors(p api.PdPad) (at int, e api.Errno) {
	for i, d := range p.Doors {
		switch {
		case !hasOr(p.Zones, d.A, outside), !hasOr(p.Zones, d.B, outside):
			return i, api.ErrNone
		case d.A == d.B:
			return i, api.ErrArg
		}
	}
	return 0, api.OK
}

func checkPeople(p api.PdPad) (at int, e api.Errno) {
	return checkNamed(p.People, func(q api.PdPerson) string { return q.Name }, checkPerson)
}

// checkPerson returns the error of a person whose name has none.
func checkPerson(p api.PdPerson) api.Errno {
	if !isGrade(p.Grade) {
		return api.ErrRange
	}
	return api.OK
}

func checkKeys(p api.PdPad) (at int, e api.Errno) {
	return checkNamed(p.Keys, func(name string) string { return name }, func(string) api.Errno { return api.OK })
}

func checkSquibs(p api.PdPad) (at int, e api.Errno) {
	return checkNamed(p.Squibs, func(q api.PdSquib) string { return q.Name }, func(q api.PdSquib) api.Errno { return checkSquib(p, q) })
}

// checkSquib returns the error of a squib whose name has none.
func checkSquib(p api.PdPad, q api.PdSquib) api.Errno {
	noKey := func(key int) bool { return !has(p.Keys, key) }
	switch {
	case !isPart(q.At.X), !isPart(q.At.Y), !isIn(q.Clear, 0, api.MaxPdPlace), !isGrade(q.Grade):
		return api.ErrRange
	case len(q.Keys) == 0, slices.ContainsFunc(q.Keys, noKey):
		return api.ErrNone
	case !ascends(q.Keys):
		return api.ErrArg
	}
	return api.OK
}

// ascends reports whether each number is above the one before it.
func ascends(l []int) bool {
	for i := 1; i < len(l); i++ {
		if l[i] <= l[i-1] {
			return false
		}
	}
	return true
}

func checkPanel(p api.PdPad) (at int, e api.Errno) {
	if !has(p.Zones, p.Panel) {
		return 0, api.ErrNone
	}
	for i := range p.Squibs {
		if isNear(p, p.Panel, i) {
			return 0, api.ErrArg
		}
	}
	if !isIn(p.Wait, 0, api.MaxPdWait) {
		return 0, api.ErrRange
	}
	return 0, api.OK
}

func isGrade(n int) bool { return isIn(n, 0, api.MaxPdGrade) }

// isPart reports whether a number is one of those of a place on the pad.
func isPart(n int) bool { return isIn(n, -api.MaxPdPlace, api.MaxPdPlace) }

// isHere reports whether a span has a number, and only parts of places on the pad.
func isHere(s api.Span) bool { return s.Lo <= s.Hi && isPart(s.Lo) && isPart(s.Hi) }
