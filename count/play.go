package count

import "hangfire/api"

// checkEvent returns the error that an event has in any state.
func (c countdown) checkEvent(v api.CtEvent) api.Errno {
	switch {
	case !isTick(v.At):
		return api.ErrRange
	case !isIn(v.Kind, api.CtBegin, api.CtCharge):
		return api.ErrArg
	case !c.hasWhat(v):
		return api.ErrNone
	case isAlone(v.Kind) && v.What != 0:
		return api.ErrArg
	case v.Kind != api.CtPerson && v.Act != api.PdAct{}:
		return api.ErrArg
	case v.Kind == api.CtPerson && v.Act.At != v.At:
		return api.ErrArg
	case v.Kind == api.CtPerson:
		return checkAct(c.CtPlan.Pad, c.CtState.Pad, v.Act)
	}
	return api.OK
}

// isAlone reports whether events of a kind happen to nothing that has an index.
func isAlone(kind int) bool {
	return kind == api.CtHold || kind == api.CtResume || kind == api.CtPerson
}

// hasWhat reports whether there is what an event happens to, if this is something that has an index.
func (c countdown) hasWhat(v api.CtEvent) bool {
	switch v.Kind {
	case api.CtBegin, api.CtEnd:
		return has(c.Steps, v.What)
	case api.CtGo, api.CtNoGo:
		return has(c.Stations, v.What)
	case api.CtRecycle:
		return has(c.Points, v.What)
	case api.CtCharge:
		return has(c.Batteries, v.What)
	}
	return true
}

// after returns the state after an event that has no error, or why it is refused.
func (c countdown) after(v api.CtEvent) (s api.CtState, why api.Errno) {
	defer func() {
		if reason, ok := recover().(api.Errno); ok {
			s, why = api.CtState{}, reason
		}
	}()
	h := happening{countdown: c.clone(), CtEvent: v}
	h.demand(h.At >= h.Now, api.CtErrTime)
	h.demand(!h.launched(), api.CtErrState)
	h.pass(h.At)
	deed(h.Kind)(&h)
	return h.CtState, api.OK
}

// play returns the countdown after a log, and why events are refused, or the first error of the plan and the log.
func play(p api.CtPlan, log []api.CtEvent) (c countdown, why []api.Errno, e api.Errno) {
	s, e := Start(p)
	if e != api.OK {
		return countdown{}, nil, e
	}
	if len(log) > api.MaxCtLog {
		return countdown{}, nil, api.ErrLong
	}
	c = countdown{CtState: s, CtPlan: p}
	for _, v := range log {
		if e := c.checkEvent(v); e != api.OK {
			return countdown{}, nil, e
		}
	}
	for _, v := range log {
		next, reason := c.after(v)
		if reason == api.OK {
			c.CtState = next
		}
		why = append(why, reason)
	}
	return c, why, api.OK
}

// Play returns the countdown after a log, and why events are refused (OK: they are not).
func Play(p api.CtPlan, log []api.CtEvent) (after api.CtState, why []api.Errno, e api.Errno) {
	c, why, e := play(p, log)
	return c.CtState, why, e
}

// Ready returns the steps that could begin at a tick, after a log.
func Ready(p api.CtPlan, log []api.CtEvent, tick int) ([]int, api.Errno) {
	c, _, e := play(p, log)
	if e != api.OK {
		return nil, e
	}
	if !isIn(tick, c.Now, api.MaxTick) {
		return nil, api.ErrRange
	}
	var l []int
	for i := range c.undone() {
		if _, why := c.after(api.CtEvent{At: tick, Kind: api.CtBegin, What: i}); why == api.OK {
			l = append(l, i)
		}
	}
	return l, api.OK
}
