package aim

import (
	"hangfire/api"
	"hangfire/wind"
)

// perDrift is thousandths of a mm, times per mille, for a mm.
const perDrift = 1000000

// factors are two spans that are multiplied.
type factors struct{ a, b api.Span }

// product returns the products of numbers of both. The least and the greatest one are products of ends.
func (f factors) product() api.Span {
	p, q, r, s := f.a.Lo*f.b.Lo, f.a.Lo*f.b.Hi, f.a.Hi*f.b.Lo, f.a.Hi*f.b.Hi
	return api.Span{Lo: min(p, q, r, s), Hi: max(p, q, r, s)}
}

// sum returns the sum of products, end by end.
func sum(l ...factors) api.Span {
	var total api.Span
	for _, f := range l {
		p := f.product()
		total.Lo += p.Lo
		total.Hi += p.Hi
	}
	return total
}

// hull returns the least span that has both.
func hull(a, b api.Span) api.Span {
	return api.Span{Lo: min(a.Lo, b.Lo), Hi: max(a.Hi, b.Hi)}
}

// mean returns the mean wind in the heights of a weight, by bands that reach up to its To.
func mean(b api.AmBand, l []api.WnBand) (x, y api.Span) {
	x = api.Span{Lo: api.MaxWnWind, Hi: -api.MaxWnWind} // has no number, so a hull with it is the other span
	y = x
	for _, w := range l {
		if w.From < b.To && b.From < w.To {
			x, y = hull(x, w.X), hull(y, w.Y)
		}
	}
	return x, y
}

// Weigh returns the weighed wind.
func Weigh(t api.AmTask, l []api.WnBand) (x, y api.Span, e api.Errno) {
	if _, _, e := Check(t); e != api.OK {
		return api.Span{}, api.Span{}, e
	}
	if _, e := wind.CheckBands(l); e != api.OK {
		return api.Span{}, api.Span{}, e
	}
	if l[len(l)-1].To < t.Response[len(t.Response)-1].To {
		return api.Span{}, api.Span{}, api.ErrNone
	}
	var east, north []factors
	for _, b := range t.Response {
		wx, wy := mean(b, l)
		east = append(east, factors{b.K, wx})
		north = append(north, factors{b.K, wy})
	}
	return sum(east...), sum(north...), api.OK
}

// impact returns the impact area of a setting by a weighed wind.
func impact(s api.AmSetting, x, y api.Span) api.Area {
	return api.Area{X: drift(s.Area.X, x, s.Scale), Y: drift(s.Area.Y, y, s.Scale)}
}

// drift returns where a part of the weighed wind carries a span. No product is too great for an int: 20 weights of at most 10^7 with winds of at most 20000 make at most 4 x 10^12, and the scale is at most 2000.
func drift(s, by api.Span, scale int) api.Span {
	return api.Span{
		Lo: s.Lo + quotient(by.Lo*scale, perDrift),
		Hi: s.Hi - quotient(-by.Hi*scale, perDrift), // rounded up
	}
}

// quotient returns a divided by b, which is above 0, rounded down.
func quotient(a, b int) int {
	q := a / b
	if a%b < 0 {
		q--
	}
	return q
}
