package count

import (
	"slices"

	"hangfire/api"
	"hangfire/pad"
	"hangfire/wind"
)

// Check returns the part, the index in it and the error of a plan.
func Check(p api.CtPlan) (part, at int, e api.Errno) {
	if _, _, e := pad.Check(p.Pad); e != api.OK {
		return 1, 0, e
	}
	if len(p.Stations) > api.MaxCtStations || len(p.Batteries) > api.MaxCtBatteries || !isIn(len(p.Steps), 1, api.MaxCtSteps) {
		return 2, 0, api.ErrLong
	}
	parts := [...]func(api.CtPlan) (int, api.Errno){3: checkStations, checkBatteries, checkSteps, checkPoints, checkWindow}
	for part := 3; part < len(parts); part++ {
		if at, e := parts[part](p); e != api.OK {
			return part, at, e
		}
	}
	return 0, 0, api.OK
}

// checkNamed returns the index of the first name with an error: its own, or what the rest of the thing with this name is wrong by.
func checkNamed(names []string, rest func(i int) api.Errno) (at int, e api.Errno) {
	for i, name := range names {
		switch {
		case !wind.Name(name):
			return i, api.ErrForm
		case slices.Contains(names[:i], name):
			return i, api.ErrTwice
		}
		if e := rest(i); e != api.OK {
			return i, e
		}
	}
	return 0, api.OK
}

func checkStations(p api.CtPlan) (at int, e api.Errno) {
	return checkNamed(p.Stations, func(int) api.Errno { return api.OK })
}

func checkBatteries(p api.CtPlan) (at int, e api.Errno) {
	var names []string
	for _, b := range p.Batteries {
		names = append(names, b.Name)
	}
	return checkNamed(names, func(i int) api.Errno { return checkBattery(p.Batteries[i]) })
}

// checkBattery returns the error of a battery whose name has none.
func checkBattery(b api.CtBattery) api.Errno {
	if !isIn(b.Charge, 1, api.MaxCtCharge) || !isIn(b.Rate, 1, api.MaxCtRate) {
		return api.ErrRange
	}
	return api.OK
}

func checkSteps(p api.CtPlan) (at int, e api.Errno) {
	var names []string
	for _, s := range p.Steps {
		names = append(names, s.Name)
	}
	return checkNamed(names, func(i int) api.Errno { return checkStep(p, i) })
}

// checkStep returns the error of a step whose name has none.
func checkStep(p api.CtPlan, i int) api.Errno {
	s := p.Steps[i]
	isBefore := func(step int) bool { return has(p.Steps[:i], step) }
	isBattery := func(battery int) bool { return has(p.Batteries, battery) }
	switch {
	case !every(s.Need, isBefore), !every(s.On, isBattery), !every(s.Use, isBattery), !every(s.Off, isBattery):
		return api.ErrNone
	case !every([][]int{s.Need, s.On, s.Use, s.Off}, ascends):
		return api.ErrArg
	case !isIn(s.Least, 0, api.MaxCtTicks), !isIn(s.Most, s.Least, api.MaxCtTicks):
		return api.ErrRange
	case len(s.Acts) > api.MaxCtActs:
		return api.ErrLong
	}
	return checkActs(p.Pad, s.Acts)
}

// ascends reports whether each number is above the one before it.
func ascends(l []int) bool {
	for i := 1; i < len(l); i++ {
		if l[i] <= l[i-1] {
			return false
		}
	}
	return true
}

// checkActs returns the error of the first of some acts of a step with one. A pad that has no error has a first state.
func checkActs(p api.PdPad, l []api.PdAct) api.Errno {
	first, _ := pad.Start(p)
	for _, a := range l {
		if a.At != 0 {
			return api.ErrArg
		}
		if e := checkAct(p, first, a); e != api.OK {
			return e
		}
	}
	return api.OK
}

// checkAct returns the error of an act, but none of the reasons for which it is only refused: they are above all errors.
func checkAct(p api.PdPad, s api.PdState, a api.PdAct) api.Errno {
	if _, e := pad.Do(p, s, a); e < api.PdErrTime {
		return e
	}
	return api.OK
}

func checkPoints(p api.CtPlan) (at int, e api.Errno) {
	for i, step := range p.Points {
		switch {
		case !has(p.Steps, step):
			return i, api.ErrNone
		case i > 0 && step <= p.Points[i-1]:
			return i, api.ErrArg
		}
	}
	return 0, api.OK
}

func checkWindow(p api.CtPlan) (at int, e api.Errno) {
	if w := p.Window; !isTick(w.Lo) || !isTick(w.Hi) || w.Lo > w.Hi {
		return 0, api.ErrRange
	}
	return 0, api.OK
}
