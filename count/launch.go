package count

import (
	"slices"
	"sort"

	"hangfire/api"
)

// ends returns the earliest ends of all steps, if what has not happened happens from a tick on.
func (c countdown) ends(tick int) []int {
	ends := slices.Clone(c.Ended)
	for i := range c.undone() {
		s := c.Steps[i]
		if c.runs(i) {
			ends[i] = max(tick, c.Begun[i]+s.Least)
			continue
		}
		begin := tick
		for _, step := range s.Need {
			begin = max(begin, ends[step])
		}
		ends[i] = begin + s.Least
	}
	return ends
}

// needed returns for each step whether the launch needs it. What a step needs is before it, so the last one comes first.
func (c countdown) needed() []bool {
	l := make([]bool, len(c.Steps))
	l[c.launch()] = true
	for i, s := range slices.Backward(c.Steps) {
		for _, step := range s.Need {
			l[step] = l[step] || l[i]
		}
	}
	return l
}

// earliest returns the earliest launch from a tick on, and whether it is possible.
func (c countdown) earliest(tick int) (at int, possible bool) {
	at = max(c.ends(tick)[c.launch()], c.Window.Lo)
	if at > c.Window.Hi {
		return 0, false
	}
	needed := c.needed()
	for i := range c.undone() {
		until := tick
		if i == c.launch() {
			until = at
		}
		if needed[i] && c.runs(i) && c.Begun[i]+c.Steps[i].Most < until {
			return 0, false
		}
	}
	return at, true
}

// Earliest returns the earliest tick of a launch, if nothing happens before a tick.
func Earliest(p api.CtPlan, log []api.CtEvent, tick int) (int, api.Errno) {
	c, _, e := play(p, log)
	switch {
	case e != api.OK:
		return 0, e
	case c.launched():
		return 0, api.ErrDown
	case !isIn(tick, c.Now, api.MaxTick):
		return 0, api.ErrRange
	}
	at, possible := c.earliest(tick)
	if !possible {
		return 0, api.ErrDown
	}
	return at, api.OK
}

// Late returns the last tick up to which nothing has to happen for the launch (-1: it is too late).
func Late(p api.CtPlan, log []api.CtEvent) (int, api.Errno) {
	c, _, e := play(p, log)
	switch {
	case e != api.OK:
		return 0, e
	case c.launched():
		return 0, api.ErrDown
	}
	// What is impossible from a tick on is so from each later one on, so the first such tick is searched.
	n := sort.Search(api.MaxTick-c.Now+1, func(i int) bool {
		_, possible := c.earliest(c.Now + i)
		return !possible
	})
	if n == 0 {
		return never, api.OK
	}
	return c.Now + n - 1, api.OK
}

// Path returns steps one after the other that take longest, up to the launch.
func Path(p api.CtPlan) ([]int, api.Errno) {
	if _, _, e := Check(p); e != api.OK {
		return nil, e
	}
	sums, before := make([]int, len(p.Steps)), make([]int, len(p.Steps)) // the longest way up to each step, and the step before it on this way
	for i, s := range p.Steps {
		sums[i], before[i] = s.Least, nothing
		for _, step := range s.Need {
			if before[i] == nothing || s.Least+sums[step] > sums[i] {
				sums[i], before[i] = s.Least+sums[step], step
			}
		}
	}
	var l []int
	for i := len(p.Steps) - 1; i != nothing; i = before[i] {
		l = append(l, i)
	}
	slices.Reverse(l)
	return l, api.OK
}
