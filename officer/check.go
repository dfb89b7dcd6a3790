package officer

import (
	"slices"

	"hangfire/aim"
	"hangfire/api"
	"hangfire/count"
	"hangfire/destruct"
	"hangfire/flight"
	"hangfire/hazard"
	"hangfire/track"
	"hangfire/wind"
)

// Check returns the part, the index in it and the error of a setup.
func Check(s api.OfSetup) (part, at int, e api.Errno) {
	parts := [...]func(api.OfSetup) (int, api.Errno){
		1: checkWind, checkAim, checkDirs, checkVehicle, checkPeople, checkCrafts, checkCount, checkTrack, checkDestruct, checkNotices,
	}
	for part := 1; part < len(parts); part++ {
		if at, e := parts[part](s); e != api.OK {
			return part, at, e
		}
	}
	return 0, 0, api.OK
}

// whole returns the error of a part that is told as a whole, wherever in it the error is.
func whole(_, _ int, e api.Errno) (at int, same api.Errno) { return 0, e }

func checkWind(s api.OfSetup) (at int, e api.Errno) { return whole(wind.Check(s.Wind)) }

func checkAim(s api.OfSetup) (at int, e api.Errno) { return whole(aim.Check(s.Aim)) }

func checkDirs(s api.OfSetup) (at int, e api.Errno) {
	if len(s.Dirs) != len(s.Aim.Settings) {
		return 0, api.ErrArg
	}
	for i, d := range s.Dirs {
		if e := flight.CheckDir(d); e != api.OK {
			return i, e
		}
	}
	return 0, api.OK
}

func checkVehicle(s api.OfSetup) (at int, e api.Errno) { return whole(flight.Check(s.Vehicle)) }

func checkPeople(s api.OfSetup) (at int, e api.Errno) {
	if at, e := whole(hazard.Check(s.Map)); e != api.OK {
		return at, e
	}
	if len(s.Laws) != len(s.Vehicle.Pieces)+1 {
		return 0, api.ErrArg
	}
	for i, law := range s.Laws {
		if !isLaw(law) {
			return i, api.ErrArg
		}
	}
	_, e = hazard.Within(s.Limit, s.Limit) // has an error if this is no risk
	return 0, e
}

func isLaw(l api.HzLaw) bool {
	return isIn(l.Lethal, 0, api.MaxHzLethal) && isIn(l.Cap, 1, api.Million)
}

func checkCrafts(s api.OfSetup) (at int, e api.Errno) {
	if len(s.Crafts) > api.MaxHzCrafts {
		return 0, api.ErrLong
	}
	for i, c := range s.Crafts {
		if _, e := hazard.CheckCraft(c); e != api.OK {
			return i, e
		}
		if slices.ContainsFunc(s.Crafts[:i], func(b api.HzCraft) bool { return b.Name == c.Name }) {
			return i, api.ErrTwice
		}
	}
	return 0, api.OK
}

func checkCount(s api.OfSetup) (at int, e api.Errno) { return whole(count.Check(s.Count)) }

func checkTrack(s api.OfSetup) (at int, e api.Errno) {
	if at, e := whole(track.Check(s.Track)); e != api.OK {
		return at, e
	}
	if len(s.Track.Plots) > 0 {
		return 0, api.ErrArg
	}
	return 0, api.OK
}

func checkDestruct(s api.OfSetup) (at int, e api.Errno) { return whole(destruct.Check(s.Destruct)) }

func checkNotices(s api.OfSetup) (at int, e api.Errno) {
	if !isIn(s.Margin, 0, api.MaxPlace) || !isTick(s.Slack) {
		return 0, api.ErrRange
	}
	return 0, api.OK
}
