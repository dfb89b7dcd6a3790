package count

import (
	"slices"

	"hangfire/api"
	"hangfire/pad"
)

// happening is an event that happens, and the countdown as far as it is changed.
type happening struct {
	countdown
	api.CtEvent
}

// deed returns what events of a kind do.
func deed(kind int) func(*happening) {
	return [...]func(*happening){
		api.CtBegin:   (*happening).begin,
		api.CtEnd:     (*happening).end,
		api.CtHold:    (*happening).hold,
		api.CtResume:  (*happening).resume,
		api.CtGo:      (*happening).sayGo,
		api.CtNoGo:    (*happening).sayNoGo,
		api.CtRecycle: (*happening).recycle,
		api.CtPerson:  (*happening).person,
		api.CtCharge:  (*happening).charge,
	}[kind]
}

// demand ends the event for a reason, unless something is so.
func (h *happening) demand(so bool, reason api.Errno) {
	if !so {
		panic(reason)
	}
}

// served demands what a step needs both when it begins and when it ends: that all stations have said go, if they are polled, and its batteries.
func (h *happening) served(s api.CtStep) {
	h.demand(!s.Poll || h.allGo(), api.CtErrPoll)
	h.demand(every(s.Use, h.powers), api.CtErrBattery)
}

// turn switches batteries on or off.
func (h *happening) turn(batteries []int, on bool) {
	for _, i := range batteries {
		h.On[i] = on
	}
}

// act does an act on the pad, unless this refuses it.
func (h *happening) act(a api.PdAct) {
	after, reason := pad.Do(h.CtPlan.Pad, h.CtState.Pad, a)
	h.demand(reason == api.OK, reason)
	h.CtState.Pad = after
}

func (h *happening) begin() {
	s := h.Steps[h.What]
	h.demand(h.waits(h.What), api.CtErrState)
	h.demand(every(s.Need, h.isDone), api.CtErrNeed)
	h.demand(!h.Held, api.CtErrHeld)
	// A step may use what it switches on itself.
	h.turn(s.On, true)
	h.served(s)
	h.Begun[h.What] = h.At
}

func (h *happening) end() {
	s := h.Steps[h.What]
	h.demand(h.runs(h.What), api.CtErrState)
	h.demand(isIn(h.At-h.Begun[h.What], s.Least, s.Most), api.CtErrLength)
	h.served(s)
	h.demand(h.What != h.launch() || isIn(h.At, h.Window.Lo, h.Window.Hi), api.CtErrWindow)
	for _, a := range s.Acts {
		a.At = h.At
		h.act(a)
	}
	h.turn(s.Off, false)
	h.Ended[h.What] = h.At
}

func (h *happening) hold() {
	h.demand(!h.Held, api.CtErrState)
	h.Held = true
}

func (h *happening) resume() {
	h.demand(h.Held, api.CtErrState)
	h.Held = false
}

func (h *happening) sayGo() {
	h.demand(!h.Go[h.What], api.CtErrState)
	h.Go[h.What] = true
}

func (h *happening) sayNoGo() {
	h.demand(h.Go[h.What], api.CtErrState)
	h.Go[h.What] = false
	h.Held = true
}

func (h *happening) recycle() {
	point := h.Points[h.What]
	h.demand(!h.waits(point), api.CtErrState)
	h.demand(!slices.Contains(h.CtState.Pad.Squibs, api.PdArmed), api.CtErrArmed)
	for i := point; i < len(h.Steps); i++ {
		h.Begun[i], h.Ended[i] = never, never
	}
	clear(h.Go)
	clear(h.On)
	h.Held = true
}

func (h *happening) person() { h.act(h.Act) }

func (h *happening) charge() {
	h.demand(!h.On[h.What], api.CtErrState)
	h.Left[h.What] = h.Batteries[h.What].Charge
}
