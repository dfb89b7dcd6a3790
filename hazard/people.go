package hazard

import "hangfire/api"

// Check returns the part, the index in it and the error of a map.
func Check(m api.HzMap) (part, at int, e api.Errno) {
	if !isPlace(m.Corner) || !isIn(m.Size, 1, api.MaxHzSize) || !isIn(m.Cols, 1, api.MaxHzCols) || !isIn(m.Rows, 1, api.MaxHzCols) {
		return 1, 0, api.ErrRange
	}
	if len(m.People) != m.Cols*m.Rows {
		return 2, 0, api.ErrArg
	}
	for i, n := range m.People {
		if !isIn(n, 0, api.MaxHzPeople) {
			return 2, i, api.ErrRange
		}
	}
	return 0, 0, api.OK
}

// across returns which of n columns, that begin at a number, a span meets, and whether it is also outside of all of them. For rows it is the same.
func across(s api.Span, from, side, n int) (met api.Span, out bool) {
	met = api.Span{Lo: quotient(s.Lo-from, side), Hi: quotient(s.Hi-from, side)}
	return common(met, api.Span{Lo: 0, Hi: n - 1}), !lies(met, 0, n-1)
}

// cells returns the cells that a valid area meets, ascending, and whether it is also outside.
func cells(m api.HzMap, a api.Area) (l []int, out bool) {
	cols, west := across(a.X, m.Corner.X, metre*m.Size, m.Cols)
	rows, south := across(a.Y, m.Corner.Y, metre*m.Size, m.Rows)
	for r := rows.Lo; r <= rows.Hi; r++ {
		for c := cols.Lo; c <= cols.Hi; c++ {
			l = append(l, r*m.Cols+c)
		}
	}
	return l, west || south
}

// Cells returns the cells that an area meets, and whether it is also outside of the map.
func Cells(m api.HzMap, a api.Area) (l []int, out bool, e api.Errno) {
	if _, _, e := Check(m); e != api.OK {
		return nil, false, e
	}
	if !isArea(a) {
		return nil, false, api.ErrRange
	}
	l, out = cells(m, a)
	return l, out, api.OK
}

// Cell returns the cell of a place, or -1.
func Cell(m api.HzMap, p api.Place) (int, api.Errno) {
	l, out, e := Cells(m, api.Area{X: only(p.X), Y: only(p.Y)})
	switch {
	case e != api.OK:
		return 0, e
	case out:
		return -1, api.OK
	}
	return l[0], api.OK
}
