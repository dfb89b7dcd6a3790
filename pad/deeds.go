package pad

import (
	"slices"

	"hangfire/api"
)

// doing is an act that is being done, and the scene as far as it is changed.
type doing struct {
	scene
	api.PdAct
}

// deed returns what acts of a kind do.
func deed(kind int) func(*doing) {
	return [...]func(*doing){
		api.PdMove:    (*doing).move,
		api.PdTake:    (*doing).take,
		api.PdPut:     (*doing).put,
		api.PdGive:    (*doing).give,
		api.PdArm:     (*doing).arm,
		api.PdDisarm:  (*doing).disarm,
		api.PdFire:    (*doing).fire,
		api.PdSound:   (*doing).switchSiren,
		api.PdThunder: (*doing).switchStorm,
	}[kind]
}

// demand ends the act for a reason, unless something is so.
func (d *doing) demand(so bool, reason api.Errno) {
	if !so {
		panic(reason)
	}
}

// atPanel demands that the one who acts is where the panel is.
func (d *doing) atPanel() { d.demand(d.Zones[d.Who] == d.pad.Panel, api.PdErrFar) }

// ranked demands the grade of the squib.
func (d *doing) ranked() {
	d.demand(d.pad.People[d.Who].Grade >= d.pad.Squibs[d.What].Grade, api.PdErrBadge)
}

func (d *doing) move() {
	from, to := d.Zones[d.Who], d.What
	movers := []int{d.Who}
	if d.With != nobody {
		movers = append(movers, d.With)
		d.demand(d.Zones[d.With] == from, api.PdErrFar)
	}
	d.demand(d.connected(from, to), api.PdErrFar)
	for _, person := range movers {
		d.demand(!d.low(person, to), api.PdErrBadge)
		d.demand(!d.Storm || !d.threatened(to), api.PdErrStorm)
		d.demand(!d.keyless(person, to), api.PdErrKey)
	}
	for _, person := range movers {
		d.Zones[person] = to
	}
	d.demand(!d.full(to), api.PdErrFull)
	d.demand(!d.lonely(to) && !d.lonely(from), api.PdErrPair)
}

// connected reports whether a door connects two zones, or one and the outside.
func (d *doing) connected(a, b int) bool {
	return slices.Contains(d.pad.Doors, api.PdDoor{A: a, B: b}) || slices.Contains(d.pad.Doors, api.PdDoor{A: b, B: a})
}

func (d *doing) take() {
	d.atPanel()
	d.demand(d.Holder[d.What] == inPanel, api.PdErrKey)
	for i, q := range d.pad.Squibs {
		d.demand(!d.armed(i) || !slices.Contains(q.Keys, d.What), api.PdErrState)
	}
	d.Holder[d.What] = d.Who
}

func (d *doing) put() {
	d.atPanel()
	d.demand(d.Holder[d.What] == d.Who, api.PdErrKey)
	d.Holder[d.What] = inPanel
}

func (d *doing) give() {
	d.demand(d.Holder[d.What] == d.Who, api.PdErrKey)
	d.demand(d.Zones[d.With] == d.Zones[d.Who], api.PdErrFar)
	d.Holder[d.What] = d.With
	d.demand(!d.keyless(d.Who, d.Zones[d.Who]), api.PdErrNear)
}

func (d *doing) arm() {
	d.atPanel()
	d.ranked()
	d.demand(d.Squibs[d.What] == api.PdSafe, api.PdErrState)
	d.demand(!d.Storm, api.PdErrStorm)
	d.demand(len(d.owed(d.What)) == 0, api.PdErrKey)
	d.demand(d.Siren != off && d.At-d.Siren >= d.pad.Wait, api.PdErrSiren)
	d.Squibs[d.What] = api.PdArmed
}

func (d *doing) disarm() {
	d.atPanel()
	d.demand(d.armed(d.What), api.PdErrState)
	d.Squibs[d.What] = api.PdSafe
}

func (d *doing) fire() {
	d.atPanel()
	d.ranked()
	d.demand(d.armed(d.What), api.PdErrState)
	d.Squibs[d.What] = api.PdFired
}

func (d *doing) switchSiren() {
	on := d.What == 1
	d.atPanel()
	d.demand(on == (d.Siren == off), api.PdErrState)
	if on {
		d.Siren = d.At
		return
	}
	d.demand(!slices.Contains(d.Squibs, api.PdArmed), api.PdErrSiren)
	d.Siren = off
}

func (d *doing) switchStorm() {
	on := d.What == 1
	d.demand(on != d.Storm, api.PdErrState)
	d.Storm = on
	for i := range d.Squibs {
		if d.Storm && d.armed(i) {
			d.Squibs[i] = api.PdSafe
		}
	}
}
