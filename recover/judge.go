package recover

import (
	"slices"

	"hangfire/api"
)

// maxAt is the greatest size of a tick of a plan.
const maxAt = 1000000000

// fault is what is wrong with a plan: an error, and the index of what has it.
type fault struct {
	at int
	e  api.Errno
}

// demand ends the judgement with a fault, unless something is so.
func demand(so bool, at int, e api.Errno) {
	if !so {
		panic(fault{at, e})
	}
}

// isSoon reports whether a tick of a plan is so small that it can be reckoned with.
func isSoon(n int) bool { return isIn(n, -maxAt, maxAt) }

// isLong reports whether a visit is as long as it has to be. Only at base the helicopter may wait: the visit of a cell is the look at it, and no more.
func (m *mission) isLong(v api.RcVisit) bool {
	until := v.From + m.stay(v.Cell)
	return v.Until == until || v.Cell == base && v.Until > until
}

// isInTime reports whether a visit is not before the flight, and as long as it has to be.
func (m *mission) isInTime(v api.RcVisit) bool {
	return v.From >= m.arrival(v.Cell) && m.isLong(v)
}

// isOpen reports whether the cell of a visit is open.
func (m *mission) isOpen(v api.RcVisit) bool {
	open := m.cells[v.Cell].Open
	return open != never && v.From >= open
}

// judgeVisit demands that the next visit, which has an index, is in order.
func (m *mission) judgeVisit(at int, v api.RcVisit) {
	isBase := v.Cell == base
	demand(isBase || has(m.cells, v.Cell), at, api.ErrNone)
	demand(isBase || !m.visited[v.Cell], at, api.ErrTwice)
	demand(isSoon(v.From) && isSoon(v.Until) && m.isInTime(v), at, api.RcErrEarly)
	demand(isBase || m.isOpen(v), at, api.RcErrClosed)
	demand(isBase || m.lasts(v), at, api.RcErrFuel)
}

// isWhy reports whether the reason is so for which a cell is left.
func (m *mission) isWhy(l api.RcLeft) bool {
	switch l.Why {
	case api.RcClosed:
		return m.cells[l.Cell].Open == never
	case api.RcFar:
		return m.isFar(l.Cell)
	}
	return false
}

// judgeLeft demands that what is left is so.
func (m *mission) judgeLeft(left []api.RcLeft) {
	next := 0
	for i, l := range left {
		demand(has(m.cells, l.Cell) && l.Cell >= next && !m.visited[l.Cell] && m.isWhy(l), i, api.RcErrLeft)
		next = l.Cell + 1
	}
	for i, visited := range m.visited {
		isLeft := slices.ContainsFunc(left, func(l api.RcLeft) bool { return l.Cell == i })
		demand(visited || isLeft, len(left), api.RcErrLeft)
	}
}

// judge returns the first fault of a plan.
func (m *mission) judge(p api.RcPlan) (at int, e api.Errno) {
	defer func() {
		if f, ok := recover().(fault); ok {
			at, e = f.at, f.e
		}
	}()
	for i, v := range p.Visits {
		m.judgeVisit(i, v)
		m.fly(v)
	}
	m.judgeLeft(p.Left)
	return 0, api.OK
}

// Judge returns the index of what is wrong with a plan, and the error.
func Judge(t api.RcTask, p api.RcPlan) (at int, e api.Errno) {
	m, e := newMission(t)
	if e != api.OK {
		return 0, e
	}
	if len(p.Visits) > api.MaxRcVisits {
		return 0, api.ErrLong
	}
	return m.judge(p)
}

// Found returns by when a place is looked at.
func Found(t api.RcTask, p api.RcPlan, x api.Place) (int, api.Errno) {
	if _, e := Judge(t, p); e != api.OK {
		return 0, e
	}
	cell, e := Cell(t, x)
	if e != api.OK {
		return 0, e
	}
	for _, v := range p.Visits {
		if v.Cell == cell {
			return v.Until, api.OK
		}
	}
	return 0, api.ErrDown
}
