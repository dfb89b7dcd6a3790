package count_test

import (
	"math"
	"math/rand"
	"slices"
	"testing"

	"hangfire/api"
	"hangfire/count"
	"hangfire/pad"
)

// What the plan of the examples has.
const (
	fill, power, check, poll, launch = 0, 1, 2, 3, 4
	house, safety                    = 0, 1
	battery                          = 0
	ann, bob, eve                    = 0, 1, 2
	bunker, road, rail               = 0, 1, 2
	red, blue, grey                  = 0, 1, 2
	motor, chute                     = 0, 1
)

func span(lo, hi int) api.Span { return api.Span{Lo: lo, Hi: hi} }

func area(a, b, c, d int) api.Area { return api.Area{X: span(a, b), Y: span(c, d)} }

// site is the pad P of the examples of chapter 7.
func site() api.PdPad {
	return api.PdPad{
		Zones: []api.PdZone{
			{Name: "bunker", Area: area(-500000, -400000, 0, 50000), Room: 8},
			{Name: "road", Area: area(-300000, -100000, -10000, 10000), Grade: 1, Room: 4},
			{Name: "rail", Area: area(-5000, 5000, -5000, 5000), Grade: 2, Room: 2, Pair: true},
		},
		Doors:  []api.PdDoor{{A: bunker, B: -1}, {A: bunker, B: road}, {A: road, B: rail}},
		People: []api.PdPerson{{Name: "ann", Grade: 5}, {Name: "bob", Grade: 2}, {Name: "eve", Grade: 1}},
		Keys:   []string{"red", "blue", "grey"},
		Squibs: []api.PdSquib{
			{Name: "motor", Clear: 100000, Grade: 5, Keys: []int{red, blue}},
			{Name: "chute", At: api.Place{Y: 3000}, Clear: 20000, Grade: 3, Keys: []int{grey}},
		},
		Wait: 100,
	}
}

// example is the plan P of the chapter's examples.
func example() api.CtPlan {
	return api.CtPlan{
		Pad:       site(),
		Stations:  []string{"range", "safety"},
		Batteries: []api.CtBattery{{Name: "main", Charge: 1000, Rate: 2}},
		Steps: []api.CtStep{
			{Name: "fill", Least: 100, Most: 200},
			{Name: "power", Need: []int{fill}, Least: 10, Most: 500, On: []int{battery}},
			{Name: "check", Need: []int{fill}, Least: 50, Most: 300, Use: []int{battery}},
			{Name: "poll", Need: []int{power, check}, Most: 20, Poll: true, Use: []int{battery}},
			{Name: "launch", Need: []int{poll}, Least: 5, Most: 60, Poll: true, Use: []int{battery}, Off: []int{battery}},
		},
		Points: []int{power, poll},
		Window: span(200, 400),
	}
}

// changed returns the plan of the examples with a change.
func changed(change func(p *api.CtPlan)) api.CtPlan {
	p := example()
	change(&p)
	return p
}

// short returns a plan of one step, the launch, which lasts from 5 to 60 ticks, without stations and batteries; and with acts.
func short(acts ...api.PdAct) api.CtPlan {
	return api.CtPlan{Pad: site(), Steps: []api.CtStep{{Name: "launch", Least: 5, Most: 60, Acts: acts}}, Points: []int{0}, Window: span(0, 400)}
}

// event, begin, end, hold, goes, and person return events.
func event(at, kind, what int) api.CtEvent { return api.CtEvent{At: at, Kind: kind, What: what} }

func begin(at, step int) api.CtEvent { return event(at, api.CtBegin, step) }

func end(at, step int) api.CtEvent { return event(at, api.CtEnd, step) }

func hold(at int) api.CtEvent { return event(at, api.CtHold, 0) }

func goes(at, station int) api.CtEvent { return event(at, api.CtGo, station) }

func person(a api.PdAct) api.CtEvent { return api.CtEvent{At: a.At, Kind: api.CtPerson, Act: a} }

// act and move return acts.
func act(at, kind, who, what int) api.PdAct {
	return api.PdAct{At: at, Kind: kind, Who: who, What: what, With: -1}
}

func move(at, who, zone, with int) api.PdAct {
	return api.PdAct{At: at, Kind: api.PdMove, Who: who, What: zone, With: with}
}

// people returns an event for each of some acts.
func people(l ...api.PdAct) (log []api.CtEvent) {
	for _, a := range l {
		log = append(log, person(a))
	}
	return log
}

// logL is the log L of the chapter's examples.
func logL() []api.CtEvent {
	return []api.CtEvent{
		begin(0, fill), end(90, fill), end(100, fill),
		begin(100, check), begin(100, power), begin(110, check), end(120, power), end(170, check),
		begin(180, poll), goes(180, house), goes(181, safety), begin(185, poll), end(190, poll),
		begin(190, launch), end(199, launch), end(200, launch),
	}
}

// and returns a log that goes on.
func and(log []api.CtEvent, more ...api.CtEvent) []api.CtEvent { return slices.Concat(log, more) }

// accepted returns as many reasons as there are events in a log that are not refused.
func accepted(n int) []api.Errno { return make([]api.Errno, n) }

// play plays a log, and checks why its events are refused.
func play(t *testing.T, p api.CtPlan, log []api.CtEvent, want ...api.Errno) api.CtState {
	t.Helper()
	after, why, e := count.Play(p, log)
	if !slices.Equal(why, want) || e != api.OK {
		t.Errorf("Play of %v = %v, %d, and not %v", log, why, e, want)
	}
	return after
}

func clonePad(p api.PdPad) api.PdPad {
	p.Zones, p.Doors, p.People, p.Keys, p.Squibs = slices.Clone(p.Zones), slices.Clone(p.Doors), slices.Clone(p.People), slices.Clone(p.Keys), slices.Clone(p.Squibs)
	for i := range p.Squibs {
		p.Squibs[i].Keys = slices.Clone(p.Squibs[i].Keys)
	}
	return p
}

func clonePlan(p api.CtPlan) api.CtPlan {
	p.Pad = clonePad(p.Pad)
	p.Stations, p.Batteries, p.Steps, p.Points = slices.Clone(p.Stations), slices.Clone(p.Batteries), slices.Clone(p.Steps), slices.Clone(p.Points)
	for i := range p.Steps {
		s := &p.Steps[i]
		s.Need, s.On, s.Use, s.Off, s.Acts = slices.Clone(s.Need), slices.Clone(s.On), slices.Clone(s.Use), slices.Clone(s.Off), slices.Clone(s.Acts)
	}
	return p
}

func clonePadState(s api.PdState) api.PdState {
	s.Zones, s.Holder, s.Squibs = slices.Clone(s.Zones), slices.Clone(s.Holder), slices.Clone(s.Squibs)
	return s
}

func cloneState(s api.CtState) api.CtState {
	s.Pad = clonePadState(s.Pad)
	s.Begun, s.Ended, s.Go, s.Left, s.On = slices.Clone(s.Begun), slices.Clone(s.Ended), slices.Clone(s.Go), slices.Clone(s.Left), slices.Clone(s.On)
	return s
}

func samePad(a, b api.PdPad) bool {
	same := func(a, b api.PdSquib) bool {
		return a.Name == b.Name && a.At == b.At && a.Clear == b.Clear && a.Grade == b.Grade && slices.Equal(a.Keys, b.Keys)
	}
	return slices.Equal(a.Zones, b.Zones) && slices.Equal(a.Doors, b.Doors) && slices.Equal(a.People, b.People) && slices.Equal(a.Keys, b.Keys) &&
		slices.EqualFunc(a.Squibs, b.Squibs, same) && a.Panel == b.Panel && a.Wait == b.Wait
}

func samePlan(a, b api.CtPlan) bool {
	same := func(a, b api.CtStep) bool {
		return a.Name == b.Name && slices.Equal(a.Need, b.Need) && a.Least == b.Least && a.Most == b.Most && a.Poll == b.Poll &&
			slices.Equal(a.On, b.On) && slices.Equal(a.Use, b.Use) && slices.Equal(a.Off, b.Off) && slices.Equal(a.Acts, b.Acts)
	}
	return samePad(a.Pad, b.Pad) && slices.Equal(a.Stations, b.Stations) && slices.Equal(a.Batteries, b.Batteries) &&
		slices.EqualFunc(a.Steps, b.Steps, same) && slices.Equal(a.Points, b.Points) && a.Window == b.Window
}

func samePadState(a, b api.PdState) bool {
	return a.Now == b.Now && slices.Equal(a.Zones, b.Zones) && slices.Equal(a.Holder, b.Holder) && slices.Equal(a.Squibs, b.Squibs) && a.Siren == b.Siren && a.Storm == b.Storm
}

func sameState(a, b api.CtState) bool {
	return a.Now == b.Now && samePadState(a.Pad, b.Pad) && slices.Equal(a.Begun, b.Begun) && slices.Equal(a.Ended, b.Ended) && a.Held == b.Held &&
		slices.Equal(a.Go, b.Go) && slices.Equal(a.Left, b.Left) && slices.Equal(a.On, b.On)
}

// isZero reports whether a state is the zero value.
func isZero(s api.CtState) bool { return sameState(s, api.CtState{}) }

// pick returns one of some numbers.
func pick(r *rand.Rand, l ...int) int { return l[r.Intn(len(l))] }

// some returns some of the numbers below n, ascending, each of them once in so many cases.
func some(r *rand.Rand, n, cases int) (l []int) {
	for i := range n {
		if r.Intn(cases) == 0 {
			l = append(l, i)
		}
	}
	return l
}

// name returns a name that only a number has.
func name(kind string, i int) string { return kind + "-" + string(rune('a'+i)) }

// randomPlan returns a plan without an error, whose steps are short.
func randomPlan(r *rand.Rand) api.CtPlan {
	p := api.CtPlan{Pad: site()}
	p.Pad.Wait = r.Intn(5)
	p.Pad.Squibs = p.Pad.Squibs[:r.Intn(3)]
	p.Pad.People[bob].Grade = pick(r, 2, 5)
	for i := range pick(r, 0, 0, 1, 2, 3) {
		p.Stations = append(p.Stations, name("station", i))
	}
	for i := range pick(r, 0, 1, 2, 3) {
		p.Batteries = append(p.Batteries, api.CtBattery{Name: name("battery", i), Charge: 1 + r.Intn(300), Rate: 1 + r.Intn(6)})
	}
	n := 1 + r.Intn(7)
	for i := range n {
		least := r.Intn(10)
		s := api.CtStep{Name: name("step", i), Need: some(r, i, 2), Least: least, Most: least + r.Intn(20), Poll: r.Intn(4) == 0}
		s.On, s.Use, s.Off = some(r, len(p.Batteries), 3), some(r, len(p.Batteries), 3), some(r, len(p.Batteries), 4)
		for range pick(r, 0, 0, 0, 0, 0, 0, 1, 2) {
			first, _ := pad.Start(p.Pad)
			a := anyAct(r, p.Pad, first)
			a.At = 0
			s.Acts = append(s.Acts, a)
		}
		p.Steps = append(p.Steps, s)
	}
	p.Points = some(r, n, 2)
	p.Window.Lo = r.Intn(60)
	p.Window.Hi = p.Window.Lo + r.Intn(90)
	return p
}

// bare returns a plan without polls, batteries and acts.
func bare(r *rand.Rand) api.CtPlan {
	p := randomPlan(r)
	for i := range p.Steps {
		s := &p.Steps[i]
		s.Poll, s.On, s.Use, s.Off, s.Acts = false, nil, nil, nil, nil
	}
	return p
}

// anyAct returns an act without an error, at a tick of a state of the pad.
func anyAct(r *rand.Rand, p api.PdPad, s api.PdState) api.PdAct {
	kinds := []int{api.PdMove, api.PdMove, api.PdMove, api.PdTake, api.PdPut, api.PdSound, api.PdThunder}
	if len(p.Squibs) > 0 {
		kinds = append(kinds, api.PdArm, api.PdArm, api.PdArm, api.PdDisarm, api.PdFire)
	}
	a := act(s.Now, pick(r, kinds...), r.Intn(len(p.People)), 0)
	switch a.Kind {
	case api.PdMove:
		a.What = pick(r, -1, bunker, bunker, road, rail)
		if a.With = r.Intn(len(p.People)); a.With == a.Who {
			a.With = -1
		}
	case api.PdTake, api.PdPut:
		a.What = r.Intn(len(p.Keys))
	case api.PdSound:
		a.What = r.Intn(2)
	case api.PdThunder:
		a.What = pick(r, 0, 0, 0, 1)
	default:
		a.What = r.Intn(len(p.Squibs))
	}
	return a
}

// guess returns an event without an error, some ticks after a state, or, rarely, before it.
func guess(r *rand.Rand, p api.CtPlan, s api.CtState) api.CtEvent {
	v := event(max(s.Now+pick(r, 0, 0, 1, 1, 2, 4, 8, -1), 0), 1+r.Intn(9), 0)
	if r.Intn(2) == 0 {
		v.Kind = pick(r, api.CtBegin, api.CtEnd, api.CtGo, api.CtPerson, api.CtResume)
	}
	n := []int{1: len(p.Steps), len(p.Steps), 1, 1, len(p.Stations), len(p.Stations), len(p.Points), 1, len(p.Batteries)}[v.Kind]
	if n == 0 || v.Kind == api.CtRecycle && r.Intn(3) > 0 {
		return guess(r, p, s)
	}
	v.What = r.Intn(n)
	switch v.Kind {
	case api.CtEnd:
		if s.Begun[v.What] >= 0 && r.Intn(3) > 0 { // when it can end
			v.At = max(s.Now, s.Begun[v.What]+p.Steps[v.What].Least)
		}
	case api.CtPerson:
		v.Act = anyAct(r, p.Pad, s.Pad)
		v.Act.At = v.At
	}
	return v
}

// likely returns an event as guess does, but most often one that is not refused.
func likely(r *rand.Rand, p api.CtPlan, s api.CtState) api.CtEvent {
	v := guess(r, p, s)
	for range pick(r, 0, 0, 2, 5, 12) {
		if _, why := doOf(p, s, v); why == api.OK {
			break
		}
		v = guess(r, p, s)
	}
	return v
}

// walk returns n events from a state on, and the states before each of them and after the last one, as they are defined.
func walk(r *rand.Rand, p api.CtPlan, s api.CtState, n int) ([]api.CtEvent, []api.CtState) {
	log, states := []api.CtEvent(nil), []api.CtState{s}
	for range n {
		v := likely(r, p, s)
		if next, why := doOf(p, s, v); why == api.OK {
			s = next
		}
		log, states = append(log, v), append(states, s)
	}
	return log, states
}

// day returns a random plan with a log, and the states before each of its events and after the last one. In many logs two people come to the panel at first, and sound the siren.
func day(r *rand.Rand) (api.CtPlan, []api.CtEvent, []api.CtState) {
	p := randomPlan(r)
	s, _ := count.Start(p)
	states := []api.CtState{s}
	var log []api.CtEvent
	if r.Intn(2) == 0 {
		log = people(move(0, ann, bunker, bob), act(0, api.PdSound, ann, 1))
	}
	for _, v := range log {
		s, _ = doOf(p, s, v)
		states = append(states, s)
	}
	more, later := walk(r, p, s, r.Intn(61))
	return p, append(log, more...), append(states, later[1:]...)
}

// odd returns a number that is often beyond all limits.
func odd(r *rand.Rand) int {
	return pick(r, math.MinInt, math.MinInt+1, -2, -1, 0, 1, 2, 3, 4, 5, 8, 9, 10, 400, 1000, 1001, 20000, 20001, api.MaxTick, api.MaxTick+1, 1000000, 1000001, math.MaxInt-1, math.MaxInt, r.Intn(20), int(r.Uint64()))
}

// change sets some of the numbers to odd ones.
func change(r *rand.Rand, numbers ...*int) {
	for range r.Intn(3) {
		*numbers[r.Intn(len(numbers))] = odd(r)
	}
}
