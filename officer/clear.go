package officer

import (
	"slices"

	"hangfire/aim"
	"hangfire/api"
	"hangfire/flight"
	"hangfire/hazard"
	"hangfire/wind"
)

// winds returns the winds at a tick.
func (d *desk) winds(tick int) ([]api.WnBand, api.Errno) { return wind.Bands(d.Wind, tick, tick) }

// impacts returns the impacts at a tick.
func (d *desk) impacts(tick int) ([]api.FlImpact, api.Errno) {
	if d.Setting == nothing {
		return nil, api.ErrDown
	}
	bands, e := d.winds(tick)
	if e != api.OK {
		return nil, e
	}
	return flight.Impacts(d.Vehicle, d.Dirs[d.Setting], bands)
}

// later returns impacts with the ends of a span added to those of At.
func later(impacts []api.FlImpact, by api.Span) []api.FlImpact {
	l := slices.Clone(impacts)
	for i := range l {
		l[i].At.Lo += by.Lo
		l[i].At.Hi += by.Hi
	}
	return l
}

// reasons returns what tells whether the reasons apply why it is not clear for a launch at a tick, one after the other. Each of them is asked only if those before it do not apply, and finds what those behind it look at.
func (d *desk) reasons(tick int) [api.OfNoNotice]func() bool {
	var bands []api.WnBand
	var impacts, launched []api.FlImpact
	var e api.Errno
	return [...]func() bool{
		api.OfNoSetting - 1: func() bool { return d.Setting == nothing },
		api.OfNoWind - 1: func() bool {
			bands, e = d.winds(tick)
			return e != api.OK
		},
		api.OfNoAim - 1: func() bool {
			allowed, _ := aim.Allowed(d.Aim, bands) // none, with an error
			return !slices.Contains(allowed, d.Setting)
		},
		api.OfNoImpact - 1: func() bool {
			impacts, e = flight.Impacts(d.Vehicle, d.Dirs[d.Setting], bands)
			launched = later(impacts, api.Span{Lo: tick, Hi: tick})
			return e != api.OK
		},
		api.OfRisk - 1: func() bool {
			risk, _ := hazard.Risk(d.Map, impacts, d.Laws) // is no risk, with an error, and so not within another one
			within, _ := hazard.Within(risk, d.Limit)
			return !within
		},
		api.OfCraft - 1: func() bool {
			ships, e := hazard.Ships(launched, d.Crafts)
			down := impacts[len(impacts)-1].At.Hi
			states, _ := flight.Fly(d.Vehicle, d.Dirs[d.Setting], bands, down) // the states that the impact is of
			planes, f := hazard.Meets(states, tick, d.Crafts)
			return e != api.OK || f != api.OK || len(ships)+len(planes) > 0
		},
		api.OfNoNotice - 1: func() bool {
			return slices.ContainsFunc(launched, func(x api.FlImpact) bool {
				number, _ := hazard.Covers(d.Notices, x)
				return number == 0
			})
		},
	}
}

// why returns the first reason why it is not clear for a launch at a tick (0: it is clear).
func (d *desk) why(tick int) int {
	for i, applies := range d.reasons(tick) {
		if applies() {
			return i + 1
		}
	}
	return 0
}

// demandClear refuses a line unless it is clear for a launch at a tick.
func (d *desk) demandClear(tick int) {
	if why := d.why(tick); why != 0 {
		refuse(sayUnsafe, why)
	}
}

// waiting returns the desk after lines, for a launch at a tick, or the first error of the setup, the lines and the tick.
func waiting(s api.OfSetup, lines []string, tick int) (*desk, api.Errno) {
	d, _, e := play(s, lines)
	switch {
	case e != api.OK:
		return nil, e
	case !isIn(tick, d.Now, api.MaxTick):
		return nil, api.ErrRange
	case d.Launched != never:
		return nil, api.ErrDown
	}
	return d, api.OK
}

// Impacts returns where, and when, all comes down, if it is launched at a tick, after some lines; the ticks are those of the flight, which begins at 0.
func Impacts(s api.OfSetup, lines []string, tick int) ([]api.FlImpact, api.Errno) {
	d, e := waiting(s, lines, tick)
	if e != api.OK {
		return nil, e
	}
	return d.impacts(tick)
}

// Clear returns why it is not clear for a launch at a tick (0: it is), after some lines.
func Clear(s api.OfSetup, lines []string, tick int) (int, api.Errno) {
	d, e := waiting(s, lines, tick)
	if e != api.OK {
		return 0, e
	}
	return d.why(tick), api.OK
}
