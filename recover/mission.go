package recover

import (
	"sort"

	"hangfire/api"
)

// mission is a task that is flown, up to the end of the last visit.
type mission struct {
	api.RcTask
	cells   []api.RcCell
	visited []bool // for each cell
	at      int    // the cell of the last visit, or base
	now     int    // when the last visit ends
	left    int    // when it has left Base, if it is not there
}

// newMission returns the mission of a task before the first visit, or the error of the task.
func newMission(t api.RcTask) (*mission, api.Errno) {
	l, e := Cells(t)
	if e != api.OK {
		return nil, e
	}
	return &mission{RcTask: t, cells: l, visited: make([]bool, len(l)), at: base, now: t.Start}, api.OK
}

// middle returns the middle of a cell.
func middle(a api.Area) api.Place {
	return api.Place{X: quotient(a.X.Lo+a.X.Hi, 2), Y: quotient(a.Y.Lo+a.Y.Hi, 2)}
}

// ticks returns how long a flight takes. A number of mm is at least the length of the way if it is at least this length, rounded up to whole mm.
func ticks(a, b api.Place, speed int) int {
	x, y := max(a.X-b.X, b.X-a.X), max(a.Y-b.Y, b.Y-a.Y)
	length := sort.Search(x+y, func(n int) bool { return n*n >= x*x+y*y })
	return roundUp(length, speed)
}

// Flight returns how long a flight takes.
func Flight(t api.RcTask, a, b api.Place) (int, api.Errno) {
	if _, _, e := Check(t); e != api.OK {
		return 0, e
	}
	if !isPlace(a) || !isPlace(b) {
		return 0, api.ErrRange
	}
	return ticks(a, b, t.Speed), api.OK
}

// place returns where a cell, or base, is visited.
func (m *mission) place(cell int) api.Place {
	if cell == base {
		return m.Base
	}
	return middle(m.cells[cell].Area)
}

// flight returns how long the flight from a cell, or base, to another one takes.
func (m *mission) flight(a, b int) int { return ticks(m.place(a), m.place(b), m.Speed) }

// stay returns how long a visit of a cell takes, or, at least, one of base.
func (m *mission) stay(cell int) int {
	if cell == base {
		return m.Turn
	}
	return m.Look
}

// arrival returns from when on a cell, or base, can be visited next, if it is open.
func (m *mission) arrival(cell int) int { return m.now + m.flight(m.at, cell) }

// leaves returns when it has left Base, if some visit of a cell is the next one.
func (m *mission) leaves(v api.RcVisit) int {
	if m.at == base {
		return v.From - m.flight(base, v.Cell)
	}
	return m.left
}

// lasts reports whether the fuel lasts for the visit of a cell, and the flight to Base.
func (m *mission) lasts(v api.RcVisit) bool {
	return v.Until+m.flight(v.Cell, base)-m.leaves(v) <= m.Fuel
}

// isFar reports whether a cell is too far away for the fuel.
func (m *mission) isFar(cell int) bool { return m.Look+2*m.flight(base, cell) > m.Fuel }

// fly does a visit that is in order.
func (m *mission) fly(v api.RcVisit) {
	if v.Cell != base {
		m.left = m.leaves(v)
		m.visited[v.Cell] = true
	}
	m.at, m.now = v.Cell, v.Until
}
