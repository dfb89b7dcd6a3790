package officer

import (
	"hangfire/api"
	"hangfire/count"
)

// The words of answers.
const (
	sayOK     = "ok"
	sayNo     = "no"
	sayBad    = "bad"
	sayUnsafe = "unsafe"
	sayClear  = "clear"
	sayGoes   = "goes"
	sayEnded  = "ended"
)

// desk is a desk after some lines: its state, and its setup with the soundings, sights and plots that they have brought.
type desk struct {
	api.OfState
	api.OfSetup
	events []api.CtEvent // those that were not refused
}

// newDesk returns the desk at first, by a setup without an error.
func newDesk(s api.OfSetup) *desk {
	d := &desk{OfSetup: s}
	d.Setting, d.Launched, d.Ended = nothing, never, never
	d.OfState.Count, _ = count.Start(s.Count)
	return d
}

// told returns the state as it is told.
func (d *desk) told() api.OfState {
	s := d.OfState
	s.Soundings, s.Plots = len(d.Wind.Soundings), len(d.Track.Plots)
	for _, c := range d.Crafts {
		s.Sights += len(c.Sights)
	}
	return s
}

// ending is an answer other than ok, by which a line ends, and whether the line has done something all the same.
type ending struct {
	answer string
	done   bool
}

// finish ends a line that has done what it does.
func finish(word string, numbers ...int) {
	panic(ending{answer: say(word, numbers...), done: true})
}

// refuse ends a line that changes nothing.
func refuse(word string, numbers ...int) { panic(ending{answer: say(word, numbers...)}) }

// demand refuses a line for an error, or a reason, if there is one.
func demand(e api.Errno) {
	if e != api.OK {
		refuse(sayNo, int(e))
	}
}

// isOpen reports whether lines with a verb can do anything, as far as the flight has come.
func (d *desk) isOpen(verb int) bool {
	switch verb {
	case api.OfSound, api.OfSight:
		return true
	case api.OfPlot, api.OfLook:
		return d.Launched != never && d.Ended == never
	}
	return d.Launched == never
}

// do does a line, and returns the answer to it.
func (d *desk) do(line string) (answer string) {
	before := *d
	defer func() {
		end, ok := recover().(ending)
		if !ok {
			return
		}
		answer = end.answer
		if !end.done {
			*d = before
		}
	}()
	x, e := Parse(line)
	if e != api.OK {
		refuse(sayBad)
	}
	if x.At < d.Now {
		demand(api.CtErrTime)
	}
	if !d.isOpen(x.Verb) {
		demand(api.ErrDown)
	}
	d.Now = x.At
	d.deeds()[x.Verb](x)
	return sayOK
}

// play returns the desk after lines, and the answers to them, or the first error of the setup and the lines.
func play(s api.OfSetup, lines []string) (d *desk, answers []string, e api.Errno) {
	if _, _, e := Check(s); e != api.OK {
		return nil, nil, e
	}
	if len(lines) > api.MaxOfLines {
		return nil, nil, api.ErrLong
	}
	d = newDesk(s)
	for _, line := range lines {
		answers = append(answers, d.do(line))
	}
	return d, answers, api.OK
}

// Play returns what a desk answers to lines, and how it is after them.
func Play(s api.OfSetup, lines []string) (answers []string, after api.OfState, e api.Errno) {
	d, answers, e := play(s, lines)
	if e != api.OK {
		return nil, api.OfState{}, e
	}
	return answers, d.told(), api.OK
}
