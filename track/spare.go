package track

import (
	"iter"

	"hangfire/api"
)

// butOne yields the trackers that may fail, ascending, each with the box of all others.
func (w watch) butOne(tick int) iter.Seq2[int, api.TkBox] {
	return func(yield func(int, api.TkBox) bool) {
		for i := range w.Trackers {
			b, ok := w.box(w.everyone()&^only(i), tick)
			if ok && !yield(i, b) {
				return
			}
		}
	}
}

// spare returns the spare box at a tick, and whether there is one.
func (w watch) spare(tick int) (b api.TkBox, ok bool) {
	if len(w.Trackers) == 0 {
		return w.box(w.everyone(), tick)
	}
	for _, others := range w.butOne(tick) {
		if ok {
			others = hullBox(b, others)
		}
		b, ok = others, true
	}
	return b, ok
}

// hullBox returns the least box that has both.
func hullBox(a, b api.TkBox) api.TkBox {
	for part := range parts {
		x := axisOf(part)
		*x.place(&a) = hull(*x.place(&a), *x.place(&b))
		*x.velocity(&a) = hull(*x.velocity(&a), *x.velocity(&b))
	}
	return a
}

// meetBox reports whether boxes have a place and a velocity in common.
func meetBox(a, b api.TkBox) bool {
	for part := range parts {
		x := axisOf(part)
		if !meet(*x.place(&a), *x.place(&b)) || !meet(*x.velocity(&a), *x.velocity(&b)) {
			return false
		}
	}
	return true
}

// wide returns the width of a box.
func wide(b api.TkBox) int {
	var most int
	for part := range parts {
		place := axisOf(part).place(&b)
		most = max(most, place.Hi-place.Lo)
	}
	return most
}

// best returns the best source for a spare box (-1: there is none).
func (w watch) best(spare api.TkBox) int {
	best, least := -1, 0
	for i := range w.Trackers {
		own, ok := w.box(only(i), spare.At)
		if ok && meetBox(own, spare) && (best < 0 || wide(own) < least) {
			best, least = i, wide(own)
		}
	}
	return best
}

// isGap reports whether a tick is a gap of a width.
func (w watch) isGap(tick, width int) bool {
	b, ok := w.spare(tick)
	return !ok || wide(b) > width
}

// Fails returns the trackers that may fail, and whether all agree.
func Fails(t api.TkTask, tick, now int) (l []int, agree bool, e api.Errno) {
	w, e := look(t, tick, now)
	if e != api.OK {
		return nil, false, e
	}
	for i := range w.butOne(tick) {
		l = append(l, i)
	}
	_, agree = w.box(w.everyone(), tick)
	return l, agree, api.OK
}

// Spare returns the box that holds whichever single tracker fails.
func Spare(t api.TkTask, tick, now int) (api.TkBox, api.Errno) {
	w, e := look(t, tick, now)
	if e != api.OK {
		return api.TkBox{}, e
	}
	return orDown(w.spare(tick))
}

// Best returns the best source at a tick.
func Best(t api.TkTask, tick, now int) (int, api.Errno) {
	w, e := look(t, tick, now)
	if e != api.OK {
		return 0, e
	}
	spare, ok := w.spare(tick)
	if !ok {
		return 0, api.ErrDown
	}
	best := w.best(spare)
	if best < 0 {
		return 0, api.ErrNone
	}
	return best, api.OK
}

// Gaps returns the ticks at which there is no spare box, or too wide a one.
func Gaps(t api.TkTask, from, until, now, width int) ([]api.TkGap, api.Errno) {
	w, e := look(t, from, now)
	switch {
	case e != api.OK:
		return nil, e
	case !isTick(until), until < from, width < 0:
		return nil, api.ErrRange
	case until-from > api.MaxTkGaps:
		return nil, api.ErrLong
	}
	var l []api.TkGap
	for tick := from; tick < until; tick++ {
		if !w.isGap(tick, width) {
			continue
		}
		if last := len(l) - 1; last >= 0 && l[last].Until == tick {
			l[last].Until++
		} else {
			l = append(l, api.TkGap{From: tick, Until: tick + 1})
		}
	}
	return l, api.OK
}
