package count

import (
	"iter"
	"slices"

	"hangfire/api"
	"hangfire/pad"
)

// countdown is a plan, and a state of it.
type countdown struct {
	api.CtState
	api.CtPlan
}

// waits reports whether a step has not begun.
func (c countdown) waits(step int) bool { return c.Begun[step] == never }

// runs reports whether a step has begun, and has not ended.
func (c countdown) runs(step int) bool { return !c.waits(step) && !c.isDone(step) }

// isDone reports whether a step has ended.
func (c countdown) isDone(step int) bool { return c.Ended[step] != never }

// launch returns the index of the launch.
func (c countdown) launch() int { return len(c.Steps) - 1 }

// launched reports whether the launch has been.
func (c countdown) launched() bool { return c.isDone(c.launch()) }

// undone yields the steps that are not done, in order.
func (c countdown) undone() iter.Seq[int] {
	return func(yield func(int) bool) {
		for i := range c.Steps {
			if !c.isDone(i) && !yield(i) {
				return
			}
		}
	}
}

// allGo reports whether all stations have said go.
func (c countdown) allGo() bool { return every(c.Go, func(said bool) bool { return said }) }

// powers reports whether a battery is on, and is not empty.
func (c countdown) powers(battery int) bool { return c.On[battery] && c.Left[battery] > 0 }

// pass lets time pass until a tick that is not before now.
func (c *countdown) pass(tick int) {
	for i, b := range c.Batteries {
		if c.On[i] {
			c.Left[i] = max(c.Left[i]-b.Rate*(tick-c.Now), 0)
		}
	}
	c.Now = tick
}

// clone returns a countdown whose state can be changed while that of the other one stays. (States of the pad are not changed, but replaced.)
func (c countdown) clone() countdown {
	c.Begun, c.Ended, c.Go, c.Left, c.On = slices.Clone(c.Begun), slices.Clone(c.Ended), slices.Clone(c.Go), slices.Clone(c.Left), slices.Clone(c.On)
	return c
}

// Start returns the countdown at first.
func Start(p api.CtPlan) (api.CtState, api.Errno) {
	if _, _, e := Check(p); e != api.OK {
		return api.CtState{}, e
	}
	s := api.CtState{
		Begun: slices.Repeat([]int{never}, len(p.Steps)),
		Ended: slices.Repeat([]int{never}, len(p.Steps)),
		Go:    make([]bool, len(p.Stations)),
		On:    make([]bool, len(p.Batteries)),
	}
	s.Pad, _ = pad.Start(p.Pad)
	for _, b := range p.Batteries {
		s.Left = append(s.Left, b.Charge)
	}
	return s, api.OK
}

// Lasts returns the ticks at which batteries are empty, as they are after a log (-1: they are off).
func Lasts(p api.CtPlan, log []api.CtEvent) ([]int, api.Errno) {
	c, _, e := play(p, log)
	if e != api.OK {
		return nil, e
	}
	l := slices.Repeat([]int{never}, len(c.Batteries))
	for i, b := range c.Batteries {
		if c.On[i] {
			l[i] = c.Now + (c.Left[i]+b.Rate-1)/b.Rate
		}
	}
	return l, api.OK
}
