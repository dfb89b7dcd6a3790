package pad

import "hangfire/api"

// checkAct returns the error that an act has in any state.
func checkAct(p api.PdPad, a api.PdAct) api.Errno {
	switch {
	case !isTick(a.At):
		return api.ErrRange
	case !isIn(a.Kind, api.PdMove, api.PdThunder):
		return api.ErrArg
	case !has(p.People, a.Who), !hasWhat(p, a):
		return api.ErrNone
	case isSwitch(a.Kind) && !isIn(a.What, 0, 1):
		return api.ErrArg
	case !isShared(a.Kind) && a.With != nobody:
		return api.ErrArg
	case isShared(a.Kind) && !hasWith(p, a):
		return api.ErrNone
	case a.With == a.Who:
		return api.ErrArg
	}
	return api.OK
}

// isSwitch reports whether acts of a kind switch something on or off.
func isSwitch(kind int) bool { return kind == api.PdSound || kind == api.PdThunder }

// isShared reports whether acts of a kind may be done with somebody else.
func isShared(kind int) bool { return kind == api.PdMove || kind == api.PdGive }

// hasWhat reports whether there is what an act is done to, if it is done to something that has an index.
func hasWhat(p api.PdPad, a api.PdAct) bool {
	switch a.Kind {
	case api.PdMove:
		return hasOr(p.Zones, a.What, outside)
	case api.PdTake, api.PdPut, api.PdGive:
		return has(p.Keys, a.What)
	case api.PdArm, api.PdDisarm, api.PdFire:
		return has(p.Squibs, a.What)
	}
	return true
}

// hasWith reports whether there is somebody with whom an act is done that may be done with somebody: nobody moves with one who moves alone, but a key is given to somebody.
func hasWith(p api.PdPad, a api.PdAct) bool {
	if a.Kind == api.PdMove {
		return hasOr(p.People, a.With, nobody)
	}
	return has(p.People, a.With)
}

// do returns the state after an act that has no error, or why it is refused.
func do(p api.PdPad, s api.PdState, a api.PdAct) (after api.PdState, why api.Errno) {
	defer func() {
		if reason, ok := recover().(api.Errno); ok {
			after, why = api.PdState{}, reason
		}
	}()
	d := doing{scene: scene{PdState: clone(s), pad: p}, PdAct: a}
	d.demand(d.At >= d.Now, api.PdErrTime)
	deed(d.Kind)(&d)
	d.Now = d.At
	return d.PdState, api.OK
}

// Do returns the state after an act, or why it is refused.
func Do(p api.PdPad, s api.PdState, a api.PdAct) (api.PdState, api.Errno) {
	if e := CheckState(p, s); e != api.OK {
		return api.PdState{}, e
	}
	if e := checkAct(p, a); e != api.OK {
		return api.PdState{}, e
	}
	return do(p, s, a)
}

// Play returns the state after acts, and why each of them is refused.
func Play(p api.PdPad, s api.PdState, l []api.PdAct) (after api.PdState, why []api.Errno, e api.Errno) {
	if e := CheckState(p, s); e != api.OK {
		return api.PdState{}, nil, e
	}
	if len(l) > api.MaxPdActs {
		return api.PdState{}, nil, api.ErrLong
	}
	for _, a := range l {
		if e := checkAct(p, a); e != api.OK {
			return api.PdState{}, nil, e
		}
	}
	after = clone(s)
	for _, a := range l {
		next, reason := do(p, after, a)
		if reason == api.OK {
			after = next
		}
		why = append(why, reason)
	}
	return after, why, api.OK
}

// May returns the people who may move to a zone.
func May(p api.PdPad, s api.PdState, zone int) ([]int, api.Errno) {
	if e := CheckState(p, s); e != api.OK {
		return nil, e
	}
	if !hasOr(p.Zones, zone, outside) {
		return nil, api.ErrNone
	}
	var l []int
	for i := range p.People {
		a := api.PdAct{At: s.Now, Kind: api.PdMove, Who: i, What: zone, With: nobody}
		if _, why := do(p, s, a); why == api.OK {
			l = append(l, i)
		}
	}
	return l, api.OK
}
