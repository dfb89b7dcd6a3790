package flight

import (
	"hangfire/api"
	"hangfire/wind"
)

// Check returns the part, the index in it and the error of a vehicle.
func Check(v api.FlVehicle) (part, at int, e api.Errno) {
	if !wind.Name(v.Name) {
		return 1, 0, api.ErrForm
	}
	if !isIn(v.Gravity, 0, api.MaxFlGravity) {
		return 1, 0, api.ErrRange
	}
	if at, e := checkAir(v.Air); e != api.OK {
		return 2, at, e
	}
	if at, e := checkPhases(v.Phases); e != api.OK {
		return 3, at, e
	}
	if at, e := checkPieces(v.Pieces); e != api.OK {
		return 4, at, e
	}
	return 0, 0, api.OK
}

// isIn reports whether a span has a number, and none that is not from one to another one.
func isIn(s api.Span, lo, hi int) bool { return span(s).lies(span{Lo: lo, Hi: hi}) }

// checkAir returns the index of the first entry with an error, and the error.
func checkAir(l []api.FlAir) (at int, e api.Errno) {
	if len(l) > api.MaxFlAir {
		return 0, api.ErrLong
	}
	for i, a := range l {
		switch {
		case i == 0 && a.From != 0, i > 0 && a.From <= l[i-1].From:
			return i, api.ErrArg
		case a.From > api.MaxPlace, a.Dens < 0, a.Dens > api.MaxFlDens:
			return i, api.ErrRange
		}
	}
	return 0, api.OK
}

// checkPhases returns the index of the first phase with an error, and the error.
func checkPhases(l []api.FlPhase) (at int, e api.Errno) {
	if len(l) < 1 || len(l) > api.MaxFlPhases {
		return 0, api.ErrLong
	}
	for i, p := range l {
		if p.Ticks < 1 || p.Ticks > api.MaxFlTicks || !isIn(p.Thrust, 0, api.MaxFlThrust) || !isBody(p.Mass, p.Drag) || !tilt(p.Tilt).within(api.MaxFlTilt) {
			return i, api.ErrRange
		}
	}
	return 0, api.OK
}

// isBody reports whether a mass and a drag are as stated.
func isBody(mass, drag api.Span) bool {
	return isIn(mass, 1, api.MaxFlMass) && isIn(drag, 0, api.MaxFlDrag)
}

// checkPieces returns the index of the first piece with an error, and the error.
func checkPieces(l []api.FlPiece) (at int, e api.Errno) {
	if len(l) > api.MaxFlPieces {
		return 0, api.ErrLong
	}
	for i, p := range l {
		if e := checkPiece(p, l[:i]); e != api.OK {
			return i, e
		}
	}
	return 0, api.OK
}

// checkPiece returns the error of a piece behind other ones.
func checkPiece(p api.FlPiece, before []api.FlPiece) api.Errno {
	if !wind.Name(p.Name) {
		return api.ErrForm
	}
	for _, b := range before {
		if b.Name == p.Name {
			return api.ErrTwice
		}
	}
	if p.At < 1 || p.At > api.MaxFlTicks || !isBody(p.Mass, p.Drag) || !tilt(p.Kick).within(api.MaxSpeed) || !isFloor(p.Floor) {
		return api.ErrRange
	}
	return api.OK
}

func isFloor(n int) bool { return n >= 0 && n <= api.MaxPlace }

// CheckDir returns the error of a direction.
func CheckDir(d api.FlDir) api.Errno {
	if d.X < -api.Unit || d.X > api.Unit || d.Y < -api.Unit || d.Y > api.Unit || d.Z < 1 || d.Z > api.Unit {
		return api.ErrRange
	}
	size := d.X*d.X + d.Y*d.Y + d.Z*d.Z
	if size < api.MinFlSize*api.MinFlSize || size > api.MaxFlSize*api.MaxFlSize {
		return api.ErrArg
	}
	return api.OK
}
