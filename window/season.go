package window

import "hangfire/api"

// Play plays the next window: the state after it, and who used it.
func Play(p api.WiPlan, s api.WiState, n api.WiNight) (after api.WiState, use api.WiUse, e api.Errno) {
	x, e := playNight(p, s, n.Sky, n.Turns)
	switch {
	case e != api.OK:
		return api.WiState{}, api.WiUse{}, e
	case !x.isOver():
		return api.WiState{}, api.WiUse{}, api.ErrArg
	}
	x.Next++
	return x.WiState, x.use, api.OK
}

// Season plays a campaign from its first window on.
func Season(p api.WiPlan, nights []api.WiNight) (uses []api.WiUse, after api.WiState, e api.Errno) {
	s, e := Start(p)
	switch {
	case e != api.OK:
		return nil, api.WiState{}, e
	case len(nights) > len(p.Windows):
		return nil, api.WiState{}, api.ErrLong
	}
	for _, n := range nights {
		next, use, e := Play(p, s, n)
		if e != api.OK {
			return nil, api.WiState{}, e
		}
		s = next
		if use.Team != none {
			uses = append(uses, use)
		}
	}
	return uses, s, api.OK
}

// Audit returns the index of the first use that is not what the rules say (-1: none).
func Audit(p api.WiPlan, nights []api.WiNight, uses []api.WiUse) (int, api.Errno) {
	own, _, e := Season(p, nights)
	if e != api.OK {
		return 0, e
	}
	both := min(len(own), len(uses))
	for i := range both {
		if uses[i] != own[i] {
			return i, api.OK
		}
	}
	if len(own) != len(uses) {
		return both, api.OK
	}
	return none, api.OK
}
