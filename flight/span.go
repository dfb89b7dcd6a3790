package flight

import (
	"math/bits"

	"hangfire/api"
)

// span is all integers from Lo to Hi, to reckon with.
type span api.Span

// one returns the span of a single number.
func one(n int) span { return span{Lo: n, Hi: n} }

func (a span) plus(b span) span { return span{Lo: a.Lo + b.Lo, Hi: a.Hi + b.Hi} }

func (a span) minus(b span) span { return span{Lo: a.Lo - b.Hi, Hi: a.Hi - b.Lo} }

// times returns the products. The least and the greatest one are products of ends.
func (a span) times(b span) span {
	p, q, r, s := a.Lo*b.Lo, a.Lo*b.Hi, a.Hi*b.Lo, a.Hi*b.Hi
	return span{Lo: min(p, q, r, s), Hi: max(p, q, r, s)}
}

// over returns the quotients by numbers above 0, Lo rounded down and Hi rounded up.
func (a span) over(b span) span {
	return span{
		Lo: min(quotient(a.Lo, b.Lo), quotient(a.Lo, b.Hi)),
		Hi: max(-quotient(-a.Hi, b.Lo), -quotient(-a.Hi, b.Hi)),
	}
}

// quotient returns a divided by b, which is above 0, rounded down.
func quotient(a, b int) int {
	q := a / b
	if a%b < 0 {
		q--
	}
	return q
}

// square returns the squares. It is not the product of the span with itself, which has numbers below 0 if the span has them on both sides of 0.
func (a span) square() span {
	least, most := max(a.Lo, -a.Hi, 0), max(-a.Lo, a.Hi)
	return span{Lo: least * least, Hi: most * most}
}

// roots returns the roots of numbers from 0 on, Lo rounded down and Hi rounded up.
func (a span) roots() span {
	r := span{Lo: root(a.Lo), Hi: root(a.Hi)}
	if r.Hi*r.Hi < a.Hi {
		r.Hi++
	}
	return r
}

// root returns the root of a number from 0 on, rounded down: it begins at a number that is not below it, from which Newton's steps only fall.
func root(n int) int {
	r := 1 << ((bits.Len(uint(n)) + 1) / 2)
	for r*r > n {
		r = (r + n/r) / 2
	}
	return r
}

// hull returns the least span that has both.
func (a span) hull(b span) span { return span{Lo: min(a.Lo, b.Lo), Hi: max(a.Hi, b.Hi)} }

// lies reports whether a span has a number, and all its numbers are in another one.
func (a span) lies(in span) bool { return a.Lo <= a.Hi && in.Lo <= a.Lo && a.Hi <= in.Hi }

// within reports whether a span has a number, and all its numbers are at most as far from 0 as stated.
func (a span) within(far int) bool { return a.lies(span{Lo: -far, Hi: far}) }

// up is the index of the axis Z.
const up = 2

// axes are the spans of X, Y and Z.
type axes [3]span

// each reckons axis by axis.
func (a axes) each(reckon func(a, b span) span, b axes) axes {
	for i := range a {
		a[i] = reckon(a[i], b[i])
	}
	return a
}

// all reckons on each axis with the same span.
func (a axes) all(reckon func(a, b span) span, b span) axes {
	return a.each(reckon, axes{b, b, b})
}

// hull returns the least spans that have both.
func (a axes) hull(b axes) axes { return a.each(span.hull, b) }

// length returns how long what has these axes can be, in whole numbers.
func (a axes) length() span {
	var sum span
	for _, s := range a {
		sum = sum.plus(s.square())
	}
	return sum.roots()
}

// within reports whether all spans have a number, and none that is farther from 0 than stated.
func (a axes) within(far int) bool {
	for _, s := range a {
		if !s.within(far) {
			return false
		}
	}
	return true
}

// tilt returns the axes of a tilt, or of a kick.
func tilt(t api.FlTilt) axes { return axes{span(t.X), span(t.Y), span(t.Z)} }
