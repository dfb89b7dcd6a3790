package destruct

import (
	"errors"

	"hangfire/api"
	"hangfire/track"
)

// What ends a search for a reason to end a flight, beside what ends a fall.
var (
	errBlind = errors.New("there is no box that is used")
	errLine  = errors.New("it may come down beyond a line")
)

// lookout looks at a flight at ticks that ascend.
type lookout struct {
	plan api.DePlan
	task api.TkTask
	lost map[int]bool // ticks without a spare box: further plots that become known only take boxes away, so there is none later either
}

// newLookout returns the lookout of a plan and a task, or the first error of both and of the first tick.
func newLookout(p api.DePlan, t api.TkTask, first int) (lookout, api.Errno) {
	if _, _, e := Check(p); e != api.OK {
		return lookout{}, e
	}
	if _, _, e := track.Check(t); e != api.OK {
		return lookout{}, e
	}
	if !isTick(first) {
		return lookout{}, api.ErrRange
	}
	return lookout{plan: p, task: t, lost: map[int]bool{}}, api.OK
}

// spare returns the spare box at the last tick up to now at which there is one.
func (o lookout) spare(now int) (b api.TkBox, err error) {
	for tick := now; tick >= max(now-o.plan.Blind, 0); tick-- {
		if o.lost[tick] {
			continue
		}
		if b, e := track.Spare(o.task, tick, now); e == api.OK {
			return b, nil
		}
		o.lost[tick] = true
	}
	return api.TkBox{}, errBlind
}

// used returns the box that is used at a tick, and from which tick it is.
func (o lookout) used(now int) (b api.TkBox, from int, err error) {
	b, err = o.spare(now)
	if err != nil {
		return api.TkBox{}, 0, err
	}
	ahead, e := track.Ahead(o.task, b, now-b.At+o.plan.Wait+1)
	if e != api.OK { // no older box takes its place
		return api.TkBox{}, 0, errBlind
	}
	return ahead, b.At, nil
}

// search is a look at a tick that is being found.
type search struct {
	api.DeLook
	lookout
	now int
}

// see finds the box that is used.
func (s *search) see() (err error) {
	s.Box, _, err = s.used(s.now)
	return err
}

// fall finds where, and when, what falls from this box comes down.
func (s *search) fall() (err error) {
	s.Area, s.At, err = body{s.Box}.fall(s.plan.Gravity)
	return err
}

// cross finds the first line beyond which that may be.
func (s *search) cross() error {
	for i, m := range ask(s.Area, measures(s.plan)...) {
		if m.Hi > s.plan.Lines[i].Line {
			s.Line = i
			return errLine
		}
	}
	return nil
}

// look returns what is foreseen at a tick.
func (o lookout) look(now int) api.DeLook {
	s := search{DeLook: api.DeLook{Line: -1}, lookout: o, now: now}
found:
	for _, find := range [...]func() error{s.see, s.fall, s.cross} {
		switch err := find(); {
		case errors.Is(err, errBlind):
			s.Why = api.DeWhyBlind
			break found
		case errors.Is(err, errFar), errors.Is(err, errStays):
			s.Why = api.DeWhyFar
			break found
		case errors.Is(err, errLine):
			s.Why = api.DeWhyLine
			break found
		}
	}
	return s.DeLook
}

// Used returns the box that is used at a tick, and from which tick it is.
func Used(p api.DePlan, t api.TkTask, now int) (b api.TkBox, from int, e api.Errno) {
	o, e := newLookout(p, t, now)
	if e != api.OK {
		return api.TkBox{}, 0, e
	}
	b, from, err := o.used(now)
	if errors.Is(err, errBlind) {
		return api.TkBox{}, 0, api.ErrDown
	}
	return b, from, api.OK
}

// Look returns what is foreseen at a tick.
func Look(p api.DePlan, t api.TkTask, now int) (api.DeLook, api.Errno) {
	o, e := newLookout(p, t, now)
	if e != api.OK {
		return api.DeLook{}, e
	}
	return o.look(now), api.OK
}

// Decide returns when, and why, a flight is ended, of the ticks from one to another one.
func Decide(p api.DePlan, t api.TkTask, first, last int) (api.DeEnd, api.Errno) {
	o, e := newLookout(p, t, first)
	switch {
	case e != api.OK:
		return api.DeEnd{}, e
	case !isTick(last), first > last:
		return api.DeEnd{}, api.ErrRange
	case last-first+1 > api.MaxDeLooks:
		return api.DeEnd{}, api.ErrLong
	}
	for now := first; now <= last; now++ {
		if l := o.look(now); l.Why != 0 {
			return api.DeEnd{Tick: now, Why: l.Why, Line: l.Line}, api.OK
		}
	}
	return api.DeEnd{Tick: -1, Line: -1}, api.OK
}
