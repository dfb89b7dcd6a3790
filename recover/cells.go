package recover

import (
	"iter"

	"hangfire/api"
)

// The limits of the numbers of fixes, and what is multiplied with a way aside so that it can be compared with that forward times Tan.
const (
	maxStep = 1000
	maxTan  = 2000
	perTan  = 1000
)

// strips returns into how many spans, each of a size but the last one, a span is divided.
func strips(s api.Span, size int) int { return (s.Hi-s.Lo)/size + 1 }

// strip returns one of these spans.
func strip(s api.Span, size, i int) api.Span {
	from := s.Lo + i*size
	return api.Span{Lo: from, Hi: min(from+size-1, s.Hi)}
}

// corners yields the corners of an area.
func corners(a api.Area) iter.Seq[api.Place] {
	return func(yield func(api.Place) bool) {
		for _, y := range [...]int{a.Y.Lo, a.Y.Hi} {
			for _, x := range [...]int{a.X.Lo, a.X.Hi} {
				if !yield(api.Place{X: x, Y: y}) {
					return
				}
			}
		}
	}
}

// conditions returns what holds for a place that agrees with a fix. No product is too great for an int: ways are at most 2 x 10^8, their sums times a direction 4 x 10^11.
func conditions(f api.RcFix) [3]func(api.Place) bool {
	forward := func(p api.Place) int { return f.DX*(p.X-f.X) + f.DY*(p.Y-f.Y) }
	aside := func(p api.Place) int { return f.DX*(p.Y-f.Y) - f.DY*(p.X-f.X) }
	return [3]func(api.Place) bool{
		func(p api.Place) bool { return forward(p) >= 0 },
		func(p api.Place) bool { return perTan*aside(p) <= f.Tan*forward(p) },
		func(p api.Place) bool { return -perTan*aside(p) <= f.Tan*forward(p) },
	}
}

// hasCorner reports whether a corner of an area meets a condition.
func hasCorner(a api.Area, meets func(api.Place) bool) bool {
	for p := range corners(a) {
		if meets(p) {
			return true
		}
	}
	return false
}

// rulesOut reports whether a fix rules out a cell.
func rulesOut(f api.RcFix, a api.Area) bool {
	for _, meets := range conditions(f) {
		if !hasCorner(a, meets) {
			return true
		}
	}
	return false
}

// isRuledOut reports whether some fix rules out a cell.
func isRuledOut(t api.RcTask, a api.Area) bool {
	for _, f := range t.Fixes {
		if rulesOut(f, a) {
			return true
		}
	}
	return false
}

func overlap(a, b api.Span) bool { return a.Lo <= b.Hi && b.Lo <= a.Hi }

// meet reports whether areas have a place in common.
func meet(a, b api.Area) bool { return overlap(a.X, b.X) && overlap(a.Y, b.Y) }

// opens returns when a cell opens.
func opens(t api.RcTask, a api.Area) int {
	open := 0
	for _, o := range t.Owners {
		if !meet(o.Area, a) {
			continue
		}
		if o.Grant == never {
			return never
		}
		open = max(open, o.Grant)
	}
	return open
}

// cells returns the cells of a task without an error.
func cells(t api.RcTask) []api.RcCell {
	var l []api.RcCell
	for row := range strips(t.Area.Y, t.Size) {
		for col := range strips(t.Area.X, t.Size) {
			a := api.Area{X: strip(t.Area.X, t.Size, col), Y: strip(t.Area.Y, t.Size, row)}
			if !isRuledOut(t, a) {
				l = append(l, api.RcCell{Area: a, Open: opens(t, a)})
			}
		}
	}
	return l
}

// Cells returns the cells that are left by the fixes.
func Cells(t api.RcTask) ([]api.RcCell, api.Errno) {
	if _, _, e := Check(t); e != api.OK {
		return nil, e
	}
	return cells(t), api.OK
}

// Cell returns the cell that has a place.
func Cell(t api.RcTask, p api.Place) (int, api.Errno) {
	l, e := Cells(t)
	if e != api.OK {
		return 0, e
	}
	for i, c := range l {
		if isIn(p.X, c.Area.X.Lo, c.Area.X.Hi) && isIn(p.Y, c.Area.Y.Lo, c.Area.Y.Hi) {
			return i, api.OK
		}
	}
	return 0, api.ErrNone
}
