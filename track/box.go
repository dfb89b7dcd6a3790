package track

import "hangfire/api"

// crew is some of the trackers: that with the index i is one of them if the bit i is 1.
type crew uint

// only returns the crew of one tracker.
func only(tracker int) crew { return 1 << tracker }

func (c crew) has(tracker int) bool { return c&only(tracker) != 0 }

// mark is a plot with its width.
type mark struct {
	api.TkPlot
	width int
}

// spot is a part of the place at a tick, by the plots of a crew.
type spot struct {
	crew
	part, tick int
}

// at returns the spot at another tick.
func (s spot) at(tick int) spot {
	s.tick = tick
	return s
}

// watch is a task with its plots that are known, and the places that have been found by them: those near a tick are asked for again and again.
type watch struct {
	api.TkTask
	marks  []mark
	places map[spot]span
}

// look returns the watch of a task by what is known at now, or the first error of the task and of both ticks.
func look(t api.TkTask, tick, now int) (watch, api.Errno) {
	if _, _, e := Check(t); e != api.OK {
		return watch{}, e
	}
	if !isTick(tick) || !isTick(now) {
		return watch{}, api.ErrRange
	}
	w := watch{TkTask: t, places: map[spot]span{}}
	for i := range known(t, now) {
		w.marks = append(w.marks, mark{TkPlot: t.Plots[i], width: width(t, i)})
	}
	return w, api.OK
}

// everyone returns the crew of all trackers.
func (w watch) everyone() crew { return only(len(w.Trackers)) - 1 }

// place returns the numbers for the place at a spot.
func (w watch) place(s spot) span {
	p, found := w.places[s]
	if !found {
		p = w.find(s)
		w.places[s] = p
	}
	return p
}

func (w watch) find(s spot) span {
	if s.tick <= w.From {
		return span{}
	}
	p := around(0, min(reach(w.TkTask, s.tick-w.From), api.MaxPlace))
	number := axisOf(s.part).plot
	for _, m := range w.marks {
		if s.has(m.Tracker) {
			p.narrow(around(number(m.TkPlot), m.width+w.Speed*distance(m.Tick, s.tick)))
		}
	}
	return p
}

// velocity returns the numbers for the velocity at a spot. There are none if there is no place at one of the ticks that tell of it.
func (w watch) velocity(s spot) span {
	if s.tick < w.From {
		return span{}
	}
	v := around(0, min(w.Speed, w.Accel*(s.tick-w.From+1)))
	for i := range api.TkWindow {
		k := i + 1
		if before := s.tick - k; before >= w.From {
			v.narrow(w.pace(s.at(before), s, w.Accel*k*(k+1)/2))
		}
		if behind := s.tick + k; behind <= api.MaxTick {
			v.narrow(w.pace(s, s.at(behind), w.Accel*k*(k-1)/2))
		}
	}
	return v
}

// pace returns the velocities which, kept from one spot to another one, differ by at most some change from what a part goes between them. It is empty if there is no place at one of both.
func (w watch) pace(from, to spot, change int) span {
	a, b := w.place(from), w.place(to)
	if a.empty() {
		return a
	}
	if b.empty() {
		return b
	}
	p := span{api.Span{Lo: b.Lo - a.Hi, Hi: b.Hi - a.Lo}}
	p.widen(change)
	p.share(to.tick - from.tick)
	return p
}

// box returns the box of a crew at a tick, and whether there is one.
func (w watch) box(c crew, tick int) (b api.TkBox, ok bool) {
	b.At = tick
	for part := range parts {
		s := spot{crew: c, part: part, tick: tick}
		place, velocity := w.place(s), w.velocity(s)
		if place.empty() || velocity.empty() {
			return api.TkBox{}, false
		}
		a := axisOf(part)
		*a.place(&b), *a.velocity(&b) = place.Span, velocity.Span
	}
	return b, true
}

// orDown returns a box, or ErrDown if there is none.
func orDown(b api.TkBox, ok bool) (api.TkBox, api.Errno) {
	if !ok {
		return api.TkBox{}, api.ErrDown
	}
	return b, api.OK
}

// Where returns the box of all trackers at a tick.
func Where(t api.TkTask, tick, now int) (api.TkBox, api.Errno) {
	w, e := look(t, tick, now)
	if e != api.OK {
		return api.TkBox{}, e
	}
	return orDown(w.box(w.everyone(), tick))
}

// Alone returns the box of one tracker at a tick.
func Alone(t api.TkTask, tracker, tick, now int) (api.TkBox, api.Errno) {
	if _, _, e := Check(t); e == api.OK && !isIndex(tracker, len(t.Trackers)) {
		return api.TkBox{}, api.ErrNone
	}
	w, e := look(t, tick, now)
	if e != api.OK {
		return api.TkBox{}, e
	}
	return orDown(w.box(only(tracker), tick))
}
