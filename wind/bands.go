package wind

import "hangfire/api"

// CheckBands returns the index of the first band with an error, and the error.
func CheckBands(l []api.WnBand) (at int, e api.Errno) {
	if len(l) < 1 || len(l) > api.MaxWnBands {
		return 0, api.ErrLong
	}
	from := 0
	for i, b := range l {
		if e := checkBand(b, from); e != api.OK {
			return i, e
		}
		from = b.To
	}
	return 0, api.OK
}

// checkBand returns the error of a band that has to begin at a height.
func checkBand(b api.WnBand, from int) api.Errno {
	switch {
	case b.From != from:
		return api.ErrArg
	case b.To <= b.From, b.To > api.MaxWnHeight, !isWind(b.X), !isWind(b.Y):
		return api.ErrRange
	}
	return api.OK
}

// isWind reports whether a span is one of parts of a wind.
func isWind(s api.Span) bool { return s.Lo <= s.Hi && isPart(s.Lo) && isPart(s.Hi) }

// Over returns the wind at a height, by bands.
func Over(l []api.WnBand, height int) (x, y api.Span, e api.Errno) {
	if _, e := CheckBands(l); e != api.OK {
		return api.Span{}, api.Span{}, e
	}
	if !isHeight(height) {
		return api.Span{}, api.Span{}, api.ErrRange
	}
	for _, b := range l {
		if height < b.To {
			return b.X, b.Y, api.OK
		}
	}
	return api.Span{}, api.Span{}, api.ErrNone
}

// Covers reports whether bands cover other ones.
func Covers(a, b []api.WnBand) (bool, api.Errno) {
	if _, e := CheckBands(a); e != api.OK {
		return false, e
	}
	if _, e := CheckBands(b); e != api.OK {
		return false, e
	}
	if a[len(a)-1].To < b[len(b)-1].To {
		return false, api.OK
	}
	for _, inner := range b {
		if !coversBand(a, inner) {
			return false, api.OK
		}
	}
	return true, api.OK
}

// coversBand reports whether the spans of a band lie in those of all bands that have a height in common with it.
func coversBand(l []api.WnBand, inner api.WnBand) bool {
	for _, b := range l {
		meet := b.From < inner.To && inner.From < b.To
		if meet && !(lies(inner.X, b.X) && lies(inner.Y, b.Y)) {
			return false
		}
	}
	return true
}
