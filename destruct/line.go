package destruct

import "hangfire/api"

// measure returns the measures of all places of an area by a line.
type measure func(a api.Area) api.Span

// by returns the measure by a line. No measure is too great for an int: 1000 times 2 x 10^9, twice, is 4 x 10^12.
func by(l api.DeLine) measure {
	return func(a api.Area) api.Span { return plus(times(l.A, a.X), times(l.B, a.Y)) }
}

// times returns the least and the greatest of the products of a number with those of a span.
func times(n int, s api.Span) api.Span {
	p, q := n*s.Lo, n*s.Hi
	return api.Span{Lo: min(p, q), Hi: max(p, q)}
}

// measures returns the measure by each line of a plan.
func measures(p api.DePlan) []measure {
	var l []measure
	for _, line := range p.Lines {
		l = append(l, by(line))
	}
	return l
}

// ask returns what each of some measures says of an area.
func ask(a api.Area, all ...measure) []api.Span {
	var l []api.Span
	for _, m := range all {
		l = append(l, m(a))
	}
	return l
}

// measured returns the measures of an area by each line of a plan, or the first error of both.
func measured(p api.DePlan, a api.Area) ([]api.Span, api.Errno) {
	if _, _, e := Check(p); e != api.OK {
		return nil, e
	}
	if !isHere(a.X) || !isHere(a.Y) {
		return nil, api.ErrRange
	}
	return ask(a, measures(p)...), api.OK
}

// Side returns by how much a whole area is before each line; below 0, if a place of it is beyond.
func Side(p api.DePlan, a api.Area) ([]int, api.Errno) {
	all, e := measured(p, a)
	if e != api.OK {
		return nil, e
	}
	var l []int
	for i, s := range all {
		l = append(l, p.Lines[i].Line-s.Hi)
	}
	return l, api.OK
}

// Keeps reports whether a whole area is in the corridor.
func Keeps(p api.DePlan, a api.Area) (bool, api.Errno) {
	all, e := measured(p, a)
	if e != api.OK {
		return false, e
	}
	for i, s := range all {
		if s.Hi > p.Lines[i].Keep {
			return false, api.OK
		}
	}
	return true, api.OK
}

// Sure reports whether a whole area is beyond a line, and beyond which one first.
func Sure(p api.DePlan, a api.Area) (bool, int, api.Errno) {
	all, e := measured(p, a)
	if e != api.OK {
		return false, 0, e
	}
	for i, s := range all {
		if s.Lo > p.Lines[i].Line {
			return true, i, api.OK
		}
	}
	return false, -1, api.OK
}
