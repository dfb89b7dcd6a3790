package recover

import (
	"hangfire/api"
	"hangfire/wind"
)

// CheckChute returns the error of a parachute.
func CheckChute(c api.RcChute) api.Errno {
	if !isIn(c.Height, 1, api.MaxWnHeight) || !lies(c.Fall, 1, api.MaxRcFall) {
		return api.ErrRange
	}
	return api.OK
}

// isImpact reports whether the spans of an impact have numbers, and only parts of places, and ticks.
func isImpact(x api.FlImpact) bool {
	return lies(x.Area.X, -api.MaxPlace, api.MaxPlace) && lies(x.Area.Y, -api.MaxPlace, api.MaxPlace) && lies(x.At, 0, api.MaxTick)
}

// plus adds spans end by end.
func plus(a, b api.Span) api.Span { return api.Span{Lo: a.Lo + b.Lo, Hi: a.Hi + b.Hi} }

// times multiplies the ends of a span with a number from 0 on.
func times(a api.Span, n int) api.Span { return api.Span{Lo: a.Lo * n, Hi: a.Hi * n} }

// over returns the quotients by speeds, Lo rounded down and Hi rounded up.
func over(a, speeds api.Span) api.Span {
	return api.Span{
		Lo: min(quotient(a.Lo, speeds.Lo), quotient(a.Lo, speeds.Hi)),
		Hi: max(roundUp(a.Hi, speeds.Lo), roundUp(a.Hi, speeds.Hi)),
	}
}

// crossed returns the winds of all mm below a height, added up. No sum is too great for an int: 10^8 mm with winds of at most 20000 make at most 2 x 10^12.
func crossed(l []api.WnBand, height int) (x, y api.Span) {
	for _, b := range l {
		n := max(min(b.To, height)-b.From, 0)
		x, y = plus(x, times(b.X, n)), plus(y, times(b.Y, n))
	}
	return x, y
}

// Land returns where, and when, a parachute lands.
func Land(x api.FlImpact, c api.RcChute, l []api.WnBand) (api.FlImpact, api.Errno) {
	if e := CheckChute(c); e != api.OK {
		return api.FlImpact{}, e
	}
	if _, e := wind.CheckBands(l); e != api.OK {
		return api.FlImpact{}, e
	}
	switch {
	case !isImpact(x):
		return api.FlImpact{}, api.ErrRange
	case l[len(l)-1].To < c.Height:
		return api.FlImpact{}, api.ErrNone
	}
	east, north := crossed(l, c.Height)
	x.Area.X, x.Area.Y = plus(x.Area.X, over(east, c.Fall)), plus(x.Area.Y, over(north, c.Fall))
	x.At = plus(x.At, over(api.Span{Lo: c.Height, Hi: c.Height}, c.Fall))
	return x, api.OK
}
