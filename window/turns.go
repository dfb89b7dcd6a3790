package window

import (
	"iter"
	"slices"

	"hangfire/api"
)

// night is a window that is played, up to the end of a turn.
type night struct {
	outlook
	minute int
	called []bool // which teams have, or have had, their turn
	team   int    // which one has the next turn (none: the window is over)
	by     int    // which one has given it this turn, if it has one (none: none has)
	use    api.WiUse
}

// newNight returns a window before its first turn.
func newNight(o outlook) *night {
	o.Used, o.Credit, o.Last = slices.Clone(o.Used), slices.Clone(o.Credit), slices.Clone(o.Last)
	n := &night{
		outlook: o,
		minute:  o.window().From,
		called:  make([]bool, len(o.Teams)),
		use:     api.WiUse{Window: o.Next, Team: none, By: none},
	}
	n.callFirst()
	return n
}

// waiting yields the teams that have a right at the minute, and have not been called.
func (n *night) waiting() iter.Seq[int] {
	return func(yield func(int) bool) {
		for team := range n.rights(n.minute) {
			if !n.called[team] && !yield(team) {
				return
			}
		}
	}
}

// call gives the next turn to a team, to which another one, or none, has given it.
func (n *night) call(team, by int) {
	n.team, n.by = team, by
	n.called[team] = true
}

// callFirst gives the next turn to the first one of those that wait. If there is none, the window is over.
func (n *night) callFirst() {
	l := ordered(n.waiting(), n.isBefore)
	if len(l) == 0 {
		n.end()
		return
	}
	n.call(l[0], none)
}

// end ends the window.
func (n *night) end() { n.team = none }

func (n *night) isOver() bool { return n.team == none }

// heirs returns the teams to which the next turn can be given.
func (n *night) heirs() []int {
	if n.isOver() || n.by != none {
		return nil
	}
	return ordered(n.waiting(), n.isBefore)
}

// demand ends the turns with an error, unless something is so.
func demand(so bool, e api.Errno) {
	if !so {
		panic(e)
	}
}

// deeds returns what turns do, by their kinds.
func (n *night) deeds() map[int]func(api.WiTurn) {
	return map[int]func(api.WiTurn){
		api.WiLaunched: n.launch,
		api.WiScrubbed: n.scrub,
		api.WiGiven:    n.give,
	}
}

func (n *night) launch(t api.WiTurn) {
	w := n.window()
	demand(isIn(t.At, n.minute+n.Teams[n.team].Setup, w.Until) && t.To == 0, api.ErrRange)
	for team := range n.waiting() {
		n.Credit[team]++
	}
	n.Used[n.team]++
	n.Last[n.team] = w.Day
	n.Credit[n.team] -= n.Cost
	n.minute = t.At
	n.use.Team, n.use.At, n.use.By = n.team, t.At, n.by
	n.end()
}

func (n *night) scrub(t api.WiTurn) {
	demand(isIn(t.At, n.minute, n.window().Until) && t.To == 0, api.ErrRange)
	n.minute = t.At
	n.callFirst()
}

func (n *night) give(t api.WiTurn) {
	demand(n.by == none, api.ErrTwice)
	demand(slices.Contains(n.heirs(), t.To), api.ErrNone)
	demand(t.At == n.minute, api.ErrRange)
	n.Credit[n.team] += n.Gift
	n.Credit[t.To] -= n.Gift
	n.call(t.To, n.team)
}

// play does turns, up to the first one with an error.
func (n *night) play(turns []api.WiTurn) (e api.Errno) {
	defer func() {
		if fault, ok := recover().(api.Errno); ok {
			e = fault
		}
	}()
	demand(len(turns) <= api.MaxWiTurns, api.ErrLong)
	deeds := n.deeds()
	for _, t := range turns {
		demand(!n.isOver(), api.ErrDown)
		deed, ok := deeds[t.What]
		demand(ok, api.ErrArg)
		deed(t)
	}
	return api.OK
}

// playNight returns the next window after turns, or the first error.
func playNight(p api.WiPlan, s api.WiState, sky api.WiSky, turns []api.WiTurn) (*night, api.Errno) {
	o, e := newOutlook(p, s, sky)
	if e != api.OK {
		return nil, e
	}
	n := newNight(o)
	return n, n.play(turns)
}

// Turns returns what can happen next in the next window: the team whose turn it is (-1: the window is over), the minute, and to which teams it can give its turn.
func Turns(p api.WiPlan, s api.WiState, sky api.WiSky, turns []api.WiTurn) (team, minute int, to []int, e api.Errno) {
	n, e := playNight(p, s, sky, turns)
	if e != api.OK {
		return 0, 0, nil, e
	}
	return n.team, n.minute, n.heirs(), api.OK
}
