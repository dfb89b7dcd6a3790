package aim

import (
	"slices"

	"hangfire/api"
	"hangfire/wind"
)

// none is the setting of a launcher that has none, and the miss where none is told.
const none = -1

// launcher is what is set in rounds, for a launch at a tick.
type launcher struct {
	task    api.AmTask
	winds   api.WnTask
	launch  int
	setting int
}

// look returns the outlook for the launch by what is known at a tick, or an error, if the winds contradict each other or are not known high enough.
func (l *launcher) look(now int) (outlook, api.Errno) {
	bands, e := wind.Bands(l.winds, l.launch, now)
	if e != api.OK {
		return outlook{}, e
	}
	return look(l.task, bands)
}

// round does a round at a tick, and returns what is told of it.
func (l *launcher) round(now int) api.AmRound {
	o, e := l.look(now)
	if e != api.OK {
		return api.AmRound{Now: now, Setting: l.setting, Miss: none}
	}
	if l.setting != none && !o.allows(l.setting) {
		l.setting = none
	}
	best, ok := o.best()
	set := ok && l.inTime(now) && l.pays(o, best)
	if set {
		l.setting = best
	}
	told := api.AmRound{Now: now, Setting: l.setting, Miss: none, Set: set}
	if l.setting != none {
		told.Miss = o.miss(l.setting)
	}
	return told
}

// inTime reports whether the launcher can still be set at a tick.
func (l *launcher) inTime(now int) bool { return now+l.task.Turn+l.task.Freeze <= l.launch }

// pays reports whether the launcher has no setting, or another one is so much better that it is worth while.
func (l *launcher) pays(o outlook, other int) bool {
	return l.setting == none || o.miss(other)+l.task.Gain <= o.miss(l.setting)
}

// Rounds returns how the launcher is set, again and again.
func Rounds(t api.AmTask, w api.WnTask, launch int, nows []int) ([]api.AmRound, api.Errno) {
	if _, _, e := Check(t); e != api.OK {
		return nil, e
	}
	if _, _, e := wind.Check(w); e != api.OK {
		return nil, e
	}
	if e := checkTicks(launch, nows); e != api.OK {
		return nil, e
	}
	l := launcher{task: t, winds: w, launch: launch, setting: none}
	return each(nows, l.round), api.OK
}

// checkTicks returns the error of the tick of a launch, and of those of the rounds before it.
func checkTicks(launch int, nows []int) api.Errno {
	if launch < 0 || launch > api.MaxTick {
		return api.ErrRange
	}
	if len(nows) > api.MaxAmRounds {
		return api.ErrLong
	}
	for _, now := range nows {
		if now < 0 || now > launch {
			return api.ErrRange
		}
	}
	if !slices.IsSorted(nows) {
		return api.ErrArg
	}
	return api.OK
}
