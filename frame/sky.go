package frame

import "hangfire/api"

// product returns the product of two directions, or of a direction and a vector.
func product(a, b api.FlDir) int { return a.X*b.X + a.Y*b.Y + a.Z*b.Z }

// vector returns the vector of a sensor.
func vector(k api.FrSensor) api.FlDir { return api.FlDir{X: k.X, Y: k.Y, Z: k.Z} }

// isWithin reports whether each part of a direction, or a vector, is one from -most to most.
func isWithin(d api.FlDir, most int) bool {
	return isSize(d.X, most) && isSize(d.Y, most) && isSize(d.Z, most)
}

// canTurn reports whether the axis can turn from a direction to another one, from a frame to the next one.
func canTurn(s api.FrSky, from, to api.FlDir) bool { return product(from, to) >= s.Turn }

// CheckSky returns the index of what has an error in a sky, and the error.
func CheckSky(f api.FrFormat, s api.FrSky) (at int, e api.Errno) {
	if _, _, e := Check(f); e != api.OK {
		return 0, e
	}
	switch {
	case !isIn(len(s.Dirs), 1, api.MaxFrDirs), len(s.Sensors) > api.MaxFrSensors:
		return 0, api.ErrLong
	case !isSize(s.Turn, api.Unit*api.Unit):
		return 0, api.ErrRange
	}
	for i, d := range s.Dirs {
		switch {
		case !isWithin(d, api.Unit):
			return i, api.ErrRange
		case !canTurn(s, d, d):
			return i, api.ErrArg
		}
	}
	for i, k := range s.Sensors {
		switch {
		case !has(f.Channels, k.Channel):
			return i, api.ErrNone
		case !isWithin(vector(k), api.MaxFrField), !isIn(k.Scale, 1, api.MaxFrScale), !isIn(k.Error, 0, api.MaxFrField):
			return i, api.ErrRange
		}
	}
	return 0, api.OK
}
