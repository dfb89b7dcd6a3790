package flight

import "hangfire/api"

// alone returns the state that is a point alone.
func alone(p api.FlPoint) state {
	return state{
		place: axes{one(p.X), one(p.Y), one(p.Z)},
		speed: axes{one(p.VX), one(p.VY), one(p.VZ)},
	}
}

// checkPath returns the error of a path.
func checkPath(path []api.FlPoint) api.Errno {
	if len(path) < 1 || len(path) > api.MaxFlTicks+1 {
		return api.ErrLong
	}
	for _, p := range path {
		if alone(p).tooFar() {
			return api.ErrRange
		}
	}
	return api.OK
}

// follows reports whether a point can come a tick after another one, with a force on that.
func follows(after, before state, force axes) bool {
	change := after.speed.each(span.minus, before.speed)
	for i, s := range change {
		if !s.lies(force[i]) {
			return false
		}
	}
	return after.place == before.place.each(span.plus, after.speed)
}

// Own returns the first tick at which a path is not one that a vehicle can fly (-1: none).
func Own(v api.FlVehicle, d api.FlDir, bands []api.WnBand, path []api.FlPoint) (int, api.Errno) {
	c, e := newCourse(v, d, bands)
	if e != api.OK {
		return 0, e
	}
	if e := checkPath(path); e != api.OK {
		return 0, e
	}
	if path[0] != (api.FlPoint{}) {
		return 0, api.OK
	}
	for i, p := range path[1:] {
		before := alone(path[i])
		if !follows(alone(p), before, c.force(c.phases.at(i), before)) {
			return i + 1, api.OK
		}
	}
	return -1, api.OK
}

// Down returns where, and when, a path comes down to a floor.
func Down(path []api.FlPoint, floor int) (api.Place, int, api.Errno) {
	if e := checkPath(path); e != api.OK {
		return api.Place{}, 0, e
	}
	if !isFloor(floor) {
		return api.Place{}, 0, api.ErrRange
	}
	for i, p := range path[1:] {
		if p.Z <= floor {
			return api.Place{X: p.X, Y: p.Y}, i + 1, api.OK
		}
	}
	return api.Place{}, 0, api.ErrDown
}
