package recover

import (
	"iter"

	"hangfire/api"
)

// earliest returns the first one of those that come by the least tick, and whether there is one.
func earliest[T any](l iter.Seq[T], tick func(T) int) (x T, found bool) {
	for y := range l {
		if !found || tick(y) < tick(x) {
			x, found = y, true
		}
	}
	return x, found
}

// soonest returns the visit of a cell that opens, or of base, as the next one, as early as it can be.
func (m *mission) soonest(cell int) api.RcVisit {
	from := m.arrival(cell)
	if cell != base {
		from = max(from, m.cells[cell].Open)
	}
	return api.RcVisit{Cell: cell, From: from, Until: from + m.stay(cell)}
}

// choices yields the soonest visits of cells that are in order, by their cells.
func (m *mission) choices() iter.Seq[api.RcVisit] {
	return func(yield func(api.RcVisit) bool) {
		for i, c := range m.cells {
			if m.visited[i] || c.Open == never {
				continue
			}
			if v := m.soonest(i); m.lasts(v) && !yield(v) {
				return
			}
		}
	}
}

// next returns the next visit of the search, and whether there is one.
func (m *mission) next() (v api.RcVisit, more bool) {
	v, more = earliest(m.choices(), func(v api.RcVisit) int { return v.Until })
	if !more && m.at != base {
		return m.soonest(base), true
	}
	return v, more
}

// unvisited returns the cells that are left, and why.
func (m *mission) unvisited() []api.RcLeft {
	var l []api.RcLeft
	for i, c := range m.cells {
		if m.visited[i] {
			continue
		}
		why := api.RcFar
		if c.Open == never {
			why = api.RcClosed
		}
		l = append(l, api.RcLeft{Cell: i, Why: why})
	}
	return l
}

// Search returns the search.
func Search(t api.RcTask) (api.RcPlan, api.Errno) {
	m, e := newMission(t)
	if e != api.OK {
		return api.RcPlan{}, e
	}
	var p api.RcPlan
	for v, more := m.next(); more; v, more = m.next() {
		p.Visits = append(p.Visits, v)
		m.fly(v)
	}
	p.Left = m.unvisited()
	return p, api.OK
}
