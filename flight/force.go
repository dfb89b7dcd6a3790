package flight

import (
	"hangfire/api"
	"hangfire/wind"
)

const (
	perThrust = 10         // mm in a tick and a tick, for a N and a kg
	perDrag   = 1000000000 // g, per mille and mm, for a kg, all of the air and a m
)

// course is what acts on a vehicle and its pieces.
type course struct {
	direction axes
	gravity   span
	winds     []layer[axes]
	airs      []layer[span]
	phases    schedule
	pieces    []api.FlPiece
}

// newCourse returns the course of a vehicle, or the first error of what it is made of.
func newCourse(v api.FlVehicle, d api.FlDir, bands []api.WnBand) (course, api.Errno) {
	if _, _, e := Check(v); e != api.OK {
		return course{}, e
	}
	if e := CheckDir(d); e != api.OK {
		return course{}, e
	}
	if _, e := wind.CheckBands(bands); e != api.OK {
		return course{}, e
	}
	return course{
		direction: axes{one(d.X), one(d.Y), one(d.Z)},
		gravity:   span(v.Gravity),
		winds:     windLayers(bands),
		airs:      airLayers(v.Air),
		phases:    v.Phases,
		pieces:    v.Pieces,
	}, api.OK
}

// schedule is phases one after the other.
type schedule []api.FlPhase

// at returns the phase at a tick. The last one goes on without thrust.
func (l schedule) at(tick int) api.FlPhase {
	for _, p := range l {
		if tick < p.Ticks {
			return p
		}
		tick -= p.Ticks
	}
	return coast(l[len(l)-1].Mass, l[len(l)-1].Drag)
}

// coast returns a phase without thrust.
func coast(mass, drag api.Span) api.FlPhase { return api.FlPhase{Mass: mass, Drag: drag} }

// force returns what changes the speeds of a state in a tick of a phase.
func (c course) force(p api.FlPhase, s state) axes {
	return c.thrust(p).each(span.minus, c.drag(p, s)).each(span.minus, axes{up: c.gravity})
}

// thrust returns by how much the thrust of a phase changes the speeds.
func (c course) thrust(p api.FlPhase) axes {
	push := span(p.Thrust).times(one(perThrust))
	by := span(p.Mass).times(one(api.Unit))
	return c.direction.each(span.plus, tilt(p.Tilt)).all(span.times, push).all(span.over, by)
}

// drag returns by how much the air around a state takes from its speeds. No product is too great for an int: the factors are at most 1000, 1000, and about 1.8 and 1.1 million.
func (c course) drag(p api.FlPhase, s state) axes {
	past := s.speed.each(span.minus, c.windAt(s))
	brake := span(p.Drag).times(c.airAt(s)).times(past.length())
	by := span(p.Mass).times(one(perDrag))
	return past.all(span.times, brake).all(span.over, by)
}

// windAt returns the winds at the heights of a state.
func (c course) windAt(s state) axes { return through(c.winds, s.place[up], axes.hull) }

// airAt returns how dense the air can be at the heights of a state.
func (c course) airAt(s state) span { return through(c.airs, s.place[up], span.hull) }

// Force returns what can change the speeds of a vehicle in a tick.
func Force(v api.FlVehicle, d api.FlDir, bands []api.WnBand, tick int, s api.FlState) (api.FlForce, api.Errno) {
	c, e := newCourse(v, d, bands)
	if e != api.OK {
		return api.FlForce{}, e
	}
	if tick < 0 || tick > api.MaxFlTicks {
		return api.FlForce{}, api.ErrRange
	}
	from := stateOf(s)
	if from.tooFar() {
		return api.FlForce{}, api.ErrRange
	}
	f := c.force(c.phases.at(tick), from)
	return api.FlForce{X: api.Span(f[0]), Y: api.Span(f[1]), Z: api.Span(f[up])}, api.OK
}
