package track

import "hangfire/api"

// span is all integers from Lo to Hi, to be narrowed.
type span struct{ api.Span }

// around returns the numbers that differ from another one by at most so much.
func around(n, far int) span { return span{api.Span{Lo: n - far, Hi: n + far}} }

// empty reports whether there is no number.
func (s *span) empty() bool { return s.Lo > s.Hi }

// narrow leaves only the numbers that are also in another span, and reports whether there are any. If that one is empty, so is what is left.
func (s *span) narrow(by span) bool {
	s.Lo, s.Hi = max(s.Lo, by.Lo), min(s.Hi, by.Hi)
	return !s.empty()
}

// widen adds the numbers that differ from one of the span by at most so much.
func (s *span) widen(far int) {
	s.Lo -= far
	s.Hi += far
}

// move adds numbers from Lo to Hi of another span.
func (s *span) move(by span) {
	s.Lo += by.Lo
	s.Hi += by.Hi
}

// share leaves only the numbers that are in the span when they are taken n times, n being above 0.
func (s *span) share(n int) { s.Lo, s.Hi = -quotient(-s.Lo, n), quotient(s.Hi, n) }

// quotient returns a divided by b, which is above 0, rounded down.
func quotient(a, b int) int {
	q := a / b
	if a%b < 0 {
		q--
	}
	return q
}

// hull returns the least span that has both.
func hull(a, b api.Span) api.Span { return api.Span{Lo: min(a.Lo, b.Lo), Hi: max(a.Hi, b.Hi)} }

// meet reports whether spans have a number in common.
func meet(a, b api.Span) bool { return a.Lo <= b.Hi && b.Lo <= a.Hi }
