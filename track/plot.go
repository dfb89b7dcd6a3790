package track

import (
	"iter"

	"hangfire/api"
)

// width returns by how much a plot may be wrong.
func width(t api.TkTask, plot int) int {
	p := t.Plots[plot]
	by := t.Trackers[p.Tracker]
	far := max(distance(p.X, by.X), distance(p.Y, by.Y), distance(p.Z, 0))
	return by.Error + by.Grow*begun(far, api.TkKm)
}

// begun returns how many parts of a size a length has, begun ones included.
func begun(length, size int) int { return (length + size - 1) / size }

// known yields the indices of the plots that are known at a tick, ascending.
func known(t api.TkTask, now int) iter.Seq[int] {
	return func(yield func(int) bool) {
		for i, p := range t.Plots {
			if p.Tick+t.Trackers[p.Tracker].Late <= now && !yield(i) {
				return
			}
		}
	}
}

// Width returns by how much a plot may be wrong.
func Width(t api.TkTask, plot int) (int, api.Errno) {
	if _, _, e := Check(t); e != api.OK {
		return 0, e
	}
	if !isIndex(plot, len(t.Plots)) {
		return 0, api.ErrNone
	}
	return width(t, plot), api.OK
}

// Known returns the plots that are known at a tick.
func Known(t api.TkTask, now int) ([]int, api.Errno) {
	if _, _, e := Check(t); e != api.OK {
		return nil, e
	}
	if !isTick(now) {
		return nil, api.ErrRange
	}
	var l []int
	for i := range known(t, now) {
		l = append(l, i)
	}
	return l, api.OK
}
