package hazard

import "hangfire/api"

// checkCrafts returns the error of the first craft that has one, or ErrTwice if two have the same name.
func checkCrafts(crafts []api.HzCraft) api.Errno {
	for _, c := range crafts {
		if _, e := CheckCraft(c); e != api.OK {
			return e
		}
	}
	taken := map[string]bool{}
	for _, c := range crafts {
		if taken[c.Name] {
			return api.ErrTwice
		}
		taken[c.Name] = true
	}
	return api.OK
}

// threat is something at some ticks, and the room that it takes at each of them.
type threat struct {
	ticks api.Span
	room  func(tick int) room
}

// first returns the first tick at which a craft can be in the room of a threat, and whether there is one; or ErrDown, if the craft contradicts itself up to then.
func (t threat) first(c api.HzCraft) (int, bool, api.Errno) {
	for tick := t.ticks.Lo; tick <= t.ticks.Hi; tick++ {
		r := where(c, tick)
		if !r.hasPlace() {
			return 0, false, api.ErrDown
		}
		if r.common(t.room(tick)).hasPlace() {
			return tick, true, api.OK
		}
	}
	return 0, false, api.OK
}

// meets returns which crafts can be where some threats are.
func meets(crafts []api.HzCraft, threats []threat) ([]api.HzMeet, api.Errno) {
	var l []api.HzMeet
	for i, c := range crafts {
		for j, t := range threats {
			tick, ok, e := t.first(c)
			if e != api.OK {
				return nil, e
			}
			if ok {
				l = append(l, api.HzMeet{Craft: i, Impact: j, Tick: tick})
			}
		}
	}
	return l, api.OK
}

// falling returns the threat of an impact, at all heights.
func falling(x api.FlImpact) threat {
	return threat{ticks: x.At, room: func(int) room { return room{x: x.Area.X, y: x.Area.Y, height: common()} }}
}

// Ships returns which ships can be where something comes down.
func Ships(l []api.FlImpact, crafts []api.HzCraft) ([]api.HzMeet, api.Errno) {
	if len(l) > api.MaxHzImpacts || len(crafts) > api.MaxHzCrafts {
		return nil, api.ErrLong
	}
	var threats []threat
	for _, x := range l {
		if !isImpact(x) {
			return nil, api.ErrRange
		}
		threats = append(threats, falling(x))
	}
	if e := checkCrafts(crafts); e != api.OK {
		return nil, e
	}
	return meets(crafts, threats)
}

func isState(s api.FlState) bool {
	return isSpan(s.X) && isSpan(s.Y) && isSpan(s.Z) && isSpan(s.VX) && isSpan(s.VY) && isSpan(s.VZ)
}

// checkStates returns the error of states, the first of which is at a tick.
func checkStates(states []api.FlState, from int) api.Errno {
	for _, s := range states {
		if !isState(s) {
			return api.ErrRange
		}
	}
	if !isTick(from) || len(states) > 0 && !isTick(from+len(states)-1) {
		return api.ErrRange
	}
	return api.OK
}

// flying returns the threat of states, the first of which is at a tick.
func flying(states []api.FlState, from int) threat {
	return threat{
		ticks: api.Span{Lo: from, Hi: from + len(states) - 1},
		room: func(tick int) room {
			s := states[tick-from]
			return room{x: s.X, y: s.Y, height: s.Z}
		},
	}
}

// Meets returns which crafts can be where something is in flight.
func Meets(states []api.FlState, from int, crafts []api.HzCraft) ([]api.HzMeet, api.Errno) {
	if len(states) > api.MaxHzStates || len(crafts) > api.MaxHzCrafts {
		return nil, api.ErrLong
	}
	if e := checkStates(states, from); e != api.OK {
		return nil, e
	}
	if e := checkCrafts(crafts); e != api.OK {
		return nil, e
	}
	return meets(crafts, []threat{flying(states, from)})
}
