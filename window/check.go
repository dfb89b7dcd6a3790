package window

import (
	"slices"

	"hangfire/api"
	"hangfire/wind"
)

// Check returns the part, the index in it and the error of a plan.
func Check(p api.WiPlan) (part, at int, e api.Errno) {
	switch {
	case !isIn(len(p.Teams), 1, api.MaxWiTeams):
		return 1, 0, api.ErrLong
	case !isIn(p.Cost, 0, api.MaxWiCost), !isIn(p.Gift, 0, api.MaxWiCost):
		return 1, 0, api.ErrRange
	}
	if at, e := checkTeams(p.Teams); e != api.OK {
		return 2, at, e
	}
	if at, e := checkWindows(p.Windows); e != api.OK {
		return 3, at, e
	}
	return 0, 0, api.OK
}

func checkTeams(l []api.WiTeam) (at int, e api.Errno) {
	for i, t := range l {
		if e := checkTeam(t, l[:i]); e != api.OK {
			return i, e
		}
	}
	return 0, api.OK
}

// checkTeam returns the error of a team that is behind other ones.
func checkTeam(t api.WiTeam, before []api.WiTeam) api.Errno {
	switch {
	case !wind.Name(t.Name):
		return api.ErrForm
	case slices.ContainsFunc(before, func(b api.WiTeam) bool { return b.Name == t.Name }):
		return api.ErrTwice
	case !hasNumbers(t):
		return api.ErrRange
	case !areKinds(t.Kinds):
		return api.ErrArg
	case len(t.Away) > api.MaxWiAway:
		return api.ErrLong
	case !areDays(t.Away):
		return api.ErrArg
	}
	return api.OK
}

// hasNumbers reports whether the numbers of a team, but those of its lists, are as stated.
func hasNumbers(t api.WiTeam) bool {
	return isIn(t.Priority, 1, maxPriority) && isIn(t.Need, 0, api.MaxWiNeed) && isIn(t.Credit, 0, api.MaxWiCredit) &&
		isWind(t.Wind) && isIn(t.Rest, 0, api.MaxWiRest) && isIn(t.Setup, 1, api.MaxWiMinute)
}

func isWind(n int) bool { return isIn(n, 0, api.MaxWiWind) }

// areKinds reports whether numbers are kinds of science, each above the one before it.
func areKinds(l []int) bool {
	least := 0
	for _, kind := range l {
		if !isIn(kind, least, api.WiKinds-1) {
			return false
		}
		least = kind + 1
	}
	return true
}

// areDays reports whether spans have days alone, each one later days than the one before it.
func areDays(l []api.Span) bool {
	least := 0
	for _, s := range l {
		if s.Lo < least || !isIn(s.Hi, s.Lo, api.MaxWiDay) {
			return false
		}
		least = s.Hi + 1
	}
	return true
}

func checkWindows(l []api.WiWindow) (at int, e api.Errno) {
	if len(l) > api.MaxWiWindows {
		return 0, api.ErrLong
	}
	for i, w := range l {
		switch {
		case !isWindow(w):
			return i, api.ErrRange
		case i > 0 && !follows(l[i-1], w):
			return i, api.ErrArg
		}
	}
	return 0, api.OK
}

// isWindow reports whether the numbers of a window are as stated.
func isWindow(w api.WiWindow) bool {
	return isIn(w.Day, 0, api.MaxWiDay) && w.From >= 0 && w.From < w.Until && w.Until <= api.MaxWiMinute
}

// follows reports whether a window comes after another one.
func follows(before, w api.WiWindow) bool {
	return w.Day > before.Day || w.Day == before.Day && w.From >= before.Until
}

// isSky reports whether a sky is as stated.
func isSky(s api.WiSky) bool { return areKinds(s.Kinds) && isWind(s.Wind) }
