package flight

import "hangfire/api"

// fall is something that comes down to a floor, with its impact as far as it is known.
type fall struct {
	api.FlImpact
	first, floor int
}

// pass adds the state at a tick to the impact, and reports whether all of it is down.
func (f *fall) pass(tick int, s state) bool {
	z := s.place[up]
	begun := f.At.Lo > f.first
	if tick == f.first || !begun && z.Lo > f.floor {
		return false
	}
	reach := s.place
	if begun {
		reach = reach.hull(axes{span(f.Area.X), span(f.Area.Y)})
	} else {
		f.At.Lo = tick
	}
	f.At.Hi, f.Area = tick, reach.area()
	return z.Hi <= f.floor
}

// impact returns the impact of what has these states, or the error.
func (f *fall) impact(all states) (api.FlImpact, api.Errno) {
	var down bool
	e := attempt(func() {
		for tick, s := range all {
			if down = f.pass(tick, s); down {
				return
			}
		}
	})
	switch {
	case e != api.OK:
		return api.FlImpact{}, e
	case !down:
		return api.FlImpact{}, api.ErrDown
	}
	return f.FlImpact, api.OK
}

// impact returns the impact of a piece, or, with the number of pieces, of the vehicle.
func (c course) impact(piece int) (api.FlImpact, api.Errno) {
	f := fall{FlImpact: api.FlImpact{Piece: piece}}
	if piece == len(c.pieces) {
		return f.impact(c.vehicle(api.MaxFlTicks))
	}
	f.first, f.floor = c.pieces[piece].At, c.pieces[piece].Floor
	return f.impact(c.piece(piece, api.MaxFlTicks))
}

// Impacts returns where, and when, all pieces and the vehicle come down.
func Impacts(v api.FlVehicle, d api.FlDir, bands []api.WnBand) ([]api.FlImpact, api.Errno) {
	c, e := newCourse(v, d, bands)
	if e != api.OK {
		return nil, e
	}
	var l []api.FlImpact
	for i := range len(v.Pieces) + 1 {
		x, e := c.impact(i)
		if e != api.OK {
			return nil, e
		}
		l = append(l, x)
	}
	return l, api.OK
}
