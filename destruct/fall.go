package destruct

import (
	"errors"
	"iter"

	"hangfire/api"
	"hangfire/track"
)

// What ends a fall before all of it has come down.
var (
	errFar   = errors.New("it goes too far")
	errStays = errors.New("it does not come down")
)

// body is a box that falls.
type body struct{ api.TkBox }

// after returns the body a tick later.
func (b body) after(gravity api.Span) body {
	b.At++
	b.X, b.Y, b.Z = plus(b.X, b.VX), plus(b.Y, b.VY), plus(b.Z, b.VZ)
	b.VZ = api.Span{Lo: b.VZ.Lo - gravity.Hi, Hi: b.VZ.Hi - gravity.Lo}
	return b
}

// ticks yields the body after each tick of a fall, as far as a fall is foreseen.
func (b body) ticks(gravity api.Span) iter.Seq[body] {
	return func(yield func(body) bool) {
		next := b
		for range api.MaxDeTicks {
			next = next.after(gravity)
			if !yield(next) {
				return
			}
		}
	}
}

func (b body) tooFar() bool { return !isHere(b.X) || !isHere(b.Y) || !isHere(b.Z) }

// ground is where, and when, something comes down, as far as it is known.
type ground struct {
	area  api.Area
	at    api.Span
	begun bool
}

// add adds where a body is.
func (g *ground) add(b body) {
	if !g.begun {
		*g = ground{area: api.Area{X: b.X, Y: b.Y}, at: api.Span{Lo: b.At}, begun: true}
	}
	g.area.X, g.area.Y, g.at.Hi = hull(g.area.X, b.X), hull(g.area.Y, b.Y), b.At
}

// fall returns where, and when, the body comes down.
func (b body) fall(gravity api.Span) (a api.Area, at api.Span, err error) {
	var g ground
	for b := range b.ticks(gravity) {
		if b.tooFar() {
			return api.Area{}, api.Span{}, errFar
		}
		if g.begun || b.Z.Lo <= 0 { // once it comes down, also ticks at which it rises again count
			g.add(b)
		}
		if b.Z.Hi <= 0 {
			return g.area, g.at, nil
		}
	}
	return api.Area{}, api.Span{}, errStays
}

// Fall returns where, and when, something comes down from a box, without thrust.
func Fall(p api.DePlan, b api.TkBox) (a api.Area, at api.Span, e api.Errno) {
	if _, _, e := Check(p); e != api.OK {
		return api.Area{}, api.Span{}, e
	}
	if e := track.CheckBox(b); e != api.OK {
		return api.Area{}, api.Span{}, e
	}
	a, at, err := body{b}.fall(p.Gravity)
	switch {
	case errors.Is(err, errFar):
		return api.Area{}, api.Span{}, api.ErrLong
	case errors.Is(err, errStays):
		return api.Area{}, api.Span{}, api.ErrDown
	}
	return a, at, api.OK
}
