package officer

import (
	"slices"

	"hangfire/aim"
	"hangfire/api"
	"hangfire/count"
	"hangfire/destruct"
	"hangfire/hazard"
	"hangfire/track"
	"hangfire/wind"
)

// deeds returns what lines do, by their verbs.
func (d *desk) deeds() map[int]func(api.OfLine) {
	return map[int]func(api.OfLine){
		api.OfSound:   d.sound,
		api.OfSight:   d.sight,
		api.OfAim:     d.aim,
		api.OfNotice:  d.notice,
		api.OfCancel:  d.cancel,
		api.OfBegin:   d.begin,
		api.OfEnd:     d.end,
		api.OfHold:    d.hold,
		api.OfResume:  d.resume,
		api.OfGo:      d.sayGo,
		api.OfNoGo:    d.sayNoGo,
		api.OfRecycle: d.recycle,
		api.OfCharge:  d.charge,
		api.OfPerson:  d.person,
		api.OfPlot:    d.plot,
		api.OfClear:   d.clear,
		api.OfLook:    d.look,
	}
}

// find returns the index of the first element of a list for which something is so. It refuses a line that means none of them.
func find[T any](l []T, is func(T) bool) int {
	i := slices.IndexFunc(l, is)
	if i < 0 {
		demand(api.ErrNone)
	}
	return i
}

func (d *desk) sound(x api.OfLine) {
	source := find(d.Wind.Sources, func(s api.WnSource) bool { return s.Name == x.Name })
	n := x.Numbers
	d.Wind.Soundings = with(d.Wind.Soundings, api.WnSounding{Source: source, Tick: x.At, Height: n[0], X: n[1], Y: n[2]})
	_, _, e := wind.Check(d.Wind)
	demand(e)
}

func (d *desk) sight(x api.OfLine) {
	craft := find(d.Crafts, func(c api.HzCraft) bool { return c.Name == x.Name })
	n := x.Numbers
	sight := api.HzSight{Tick: x.At, Place: api.Place{X: n[0], Y: n[1]}, Height: n[2], Error: n[3]}
	d.Crafts = slices.Clone(d.Crafts)
	c := &d.Crafts[craft]
	c.Sights = with(c.Sights, sight)
	_, e := hazard.CheckCraft(*c)
	demand(e)
}

func (d *desk) aim(x api.OfLine) {
	bands, e := d.winds(x.At)
	demand(e)
	best, e := aim.Best(d.Aim, bands)
	demand(e)
	d.Setting = best.Setting
	finish(sayOK, best.Setting)
}

// publish puts notices behind those that there are.
func (d *desk) publish(tick int, notices ...string) {
	d.Notices = with(d.Notices, notices...)
	_, e := hazard.Force(d.Notices, tick)
	demand(e)
}

func (d *desk) notice(x api.OfLine) {
	impacts, e := d.impacts(x.At)
	demand(e)
	var l []string
	for i, impact := range later(impacts, d.plan().Window) {
		s, e := hazard.Notice(impact, x.Numbers[0]+i, d.Margin, d.Slack)
		demand(e)
		l = append(l, s)
	}
	d.publish(x.At, l...)
}

func (d *desk) cancel(x api.OfLine) { d.publish(x.At, say("CANCEL", x.Numbers...)) }

// plan returns the plan of the countdown.
func (d *desk) plan() api.CtPlan { return d.OfSetup.Count }

// happen lets an event happen in the countdown.
func (d *desk) happen(v api.CtEvent) {
	events := with(d.events, v)
	after, why, e := count.Play(d.plan(), events)
	demand(e)
	demand(why[len(d.events)])
	d.events, d.OfState.Count = events, after
}

// step returns the index of the step that a line names.
func (d *desk) step(x api.OfLine) int {
	return find(d.plan().Steps, func(s api.CtStep) bool { return s.Name == x.Name })
}

// station returns the index of the station that a line names.
func (d *desk) station(x api.OfLine) int {
	return find(d.plan().Stations, func(s string) bool { return s == x.Name })
}

func (d *desk) begin(x api.OfLine) {
	d.happen(api.CtEvent{At: x.At, Kind: api.CtBegin, What: d.step(x)})
}

func (d *desk) end(x api.OfLine) {
	step := d.step(x)
	launches := step == len(d.plan().Steps)-1
	if launches {
		d.demandClear(x.At)
	}
	d.happen(api.CtEvent{At: x.At, Kind: api.CtEnd, What: step})
	if launches {
		d.Launched, d.Track.From = x.At, x.At
	}
}

func (d *desk) hold(x api.OfLine) { d.happen(api.CtEvent{At: x.At, Kind: api.CtHold}) }

func (d *desk) resume(x api.OfLine) { d.happen(api.CtEvent{At: x.At, Kind: api.CtResume}) }

func (d *desk) sayGo(x api.OfLine) {
	d.happen(api.CtEvent{At: x.At, Kind: api.CtGo, What: d.station(x)})
}

func (d *desk) sayNoGo(x api.OfLine) {
	d.happen(api.CtEvent{At: x.At, Kind: api.CtNoGo, What: d.station(x)})
}

func (d *desk) recycle(x api.OfLine) {
	step := d.step(x)
	point := find(d.plan().Points, func(s int) bool { return s == step })
	d.happen(api.CtEvent{At: x.At, Kind: api.CtRecycle, What: point})
}

func (d *desk) charge(x api.OfLine) {
	battery := find(d.plan().Batteries, func(b api.CtBattery) bool { return b.Name == x.Name })
	d.happen(api.CtEvent{At: x.At, Kind: api.CtCharge, What: battery})
}

func (d *desk) person(x api.OfLine) {
	who := find(d.plan().Pad.People, func(p api.PdPerson) bool { return p.Name == x.Name })
	n := x.Numbers
	act := api.PdAct{At: x.At, Kind: n[0], Who: who, What: n[1], With: n[2]}
	d.happen(api.CtEvent{At: x.At, Kind: api.CtPerson, Act: act})
}

func (d *desk) plot(x api.OfLine) {
	tracker := find(d.Track.Trackers, func(k api.TkTracker) bool { return k.Name == x.Name })
	n := x.Numbers
	d.Track.Plots = with(d.Track.Plots, api.TkPlot{Tracker: tracker, Tick: x.At, X: n[0], Y: n[1], Z: n[2]})
	_, _, e := track.Check(d.Track)
	demand(e)
}

func (d *desk) clear(x api.OfLine) {
	d.demandClear(x.At)
	finish(sayClear)
}

func (d *desk) look(x api.OfLine) {
	l, e := destruct.Look(d.Destruct, d.Track, x.At)
	demand(e)
	if l.Why == 0 {
		finish(sayGoes)
	}
	d.Ended = x.At
	finish(sayEnded, l.Why, l.Line)
}
