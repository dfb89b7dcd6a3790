package window

import (
	"cmp"
	"iter"
	"slices"

	"hangfire/api"
)

// firstReason is the first one of the reasons, whose numbers follow each other.
const firstReason = api.WiErrNeed

// reasons returns what tells whether the reasons apply why a team has no right at a minute, one after the other.
func (o *outlook) reasons(team, minute int) [6]func() bool {
	t, w := o.Teams[team], o.window()
	return [...]func() bool{
		api.WiErrNeed - firstReason: func() bool { return o.Used[team] >= t.Need },
		api.WiErrAway - firstReason: func() bool {
			return slices.ContainsFunc(t.Away, func(days api.Span) bool { return isIn(w.Day, days.Lo, days.Hi) })
		},
		api.WiErrRest - firstReason: func() bool { return o.Last[team] != none && w.Day-o.Last[team] < t.Rest },
		api.WiErrSky - firstReason: func() bool {
			return len(t.Kinds) > 0 && !slices.ContainsFunc(t.Kinds, func(kind int) bool { return slices.Contains(o.sky.Kinds, kind) })
		},
		api.WiErrWind - firstReason: func() bool { return o.sky.Wind > t.Wind },
		api.WiErrTime - firstReason: func() bool { return w.Until-minute < t.Setup },
	}
}

// why returns the first reason why a team has no right at a minute (OK: it has).
func (o *outlook) why(team, minute int) api.Errno {
	for i, applies := range o.reasons(team, minute) {
		if applies() {
			return firstReason + api.Errno(i)
		}
	}
	return api.OK
}

// rights yields the teams that have a right at a minute, by their indices.
func (o *outlook) rights(minute int) iter.Seq[int] {
	return func(yield func(int) bool) {
		for team := range o.Teams {
			if o.why(team, minute) == api.OK && !yield(team) {
				return
			}
		}
	}
}

// compare returns -1 if a team comes before another one in the order of teams, and 1 if it comes after it.
func (o *outlook) compare(a, b int) int {
	return cmp.Or(
		cmp.Compare(o.Teams[b].Priority, o.Teams[a].Priority),
		cmp.Compare(o.Credit[b], o.Credit[a]),
		cmp.Compare(o.Used[a], o.Used[b]),
		cmp.Compare(o.Last[a], o.Last[b]),
		cmp.Compare(a, b),
	)
}

// isBefore reports whether a team comes before all of some others in the order of teams.
func (o *outlook) isBefore(team int, others ...int) bool {
	for _, other := range others {
		if o.compare(team, other) > 0 {
			return false
		}
	}
	return true
}

// ordered returns teams in an order: each one is put in front of those that it is before, once those in front of it have been passed.
func ordered(teams iter.Seq[int], isBefore func(team int, others ...int) bool) []int {
	var l []int
	for team := range teams {
		at := 0
		for !isBefore(team, l[at:]...) {
			at++
		}
		l = slices.Insert(l, at, team)
	}
	return l
}

// Why returns why a team has no right to the next window (OK: it has).
func Why(p api.WiPlan, s api.WiState, sky api.WiSky, team, minute int) (why, e api.Errno) {
	o, e := newOutlook(p, s, sky)
	switch {
	case e != api.OK:
		return 0, e
	case !has(p.Teams, team):
		return 0, api.ErrNone
	case !o.isMinute(minute):
		return 0, api.ErrRange
	}
	return o.why(team, minute), api.OK
}

// Rights returns the teams that have a right to the next window, in their order.
func Rights(p api.WiPlan, s api.WiState, sky api.WiSky, minute int) ([]int, api.Errno) {
	o, e := newOutlook(p, s, sky)
	switch {
	case e != api.OK:
		return nil, e
	case !o.isMinute(minute):
		return nil, api.ErrRange
	}
	return ordered(o.rights(minute), o.isBefore), api.OK
}
