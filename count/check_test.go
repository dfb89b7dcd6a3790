package count_test

import (
	"math"
	"slices"
	"strings"
	"testing"

	"hangfire/api"
	"hangfire/count"
)

// everyError returns the errors of all functions but Check, with other arguments that are not valid either.
func everyError(p api.CtPlan, log []api.CtEvent) []api.Errno {
	_, a := count.Start(p)
	_, b := count.Path(p)
	return append([]api.Errno{a, b}, logErrors(p, log)...)
}

// logErrors returns the errors of all functions with a log, with other arguments that are not valid.
func logErrors(p api.CtPlan, log []api.CtEvent) []api.Errno {
	_, _, a := count.Play(p, log)
	_, b := count.Ready(p, log, -1)
	_, c := count.Earliest(p, log, -1)
	_, d := count.Late(p, log)
	_, e := count.Lasts(p, log)
	return []api.Errno{a, b, c, d, e}
}

// planCase is a change of the plan of the examples, and what Check returns of it.
type planCase struct {
	change   func(p *api.CtPlan)
	part, at int
	e        api.Errno
}

func runPlans(t *testing.T, l []planCase) {
	t.Helper()
	for i, x := range l {
		p := changed(x.change)
		if part, at, e := count.Check(p); part != x.part || at != x.at || e != x.e {
			t.Errorf("%d: Check = %d, %d, %d", i, part, at, e)
		}
		if x.e == api.OK {
			continue
		}
		for j, e := range everyError(p, make([]api.CtEvent, 101)) {
			if e != x.e {
				t.Errorf("%d: the function %d returns %d", i, j, e)
			}
		}
	}
}

// numberCases sets a number, which is from least to most, in all ways; if it is not as stated, the error is in a part, at an index.
func numberCases(least, most, part, at int, of func(p *api.CtPlan) *int) []planCase {
	set := func(n int) planCase {
		x := planCase{change: func(p *api.CtPlan) { *of(p) = n }}
		if n < least || n > most {
			x.part, x.at, x.e = part, at, api.ErrRange
		}
		return x
	}
	return []planCase{set(least), set(most), set(least - 1), set(most + 1), set(math.MinInt), set(math.MaxInt)}
}

// P8.1: numbers.
func TestCheckNumbers(t *testing.T) {
	spare := func(p *api.CtPlan) *api.CtBattery {
		p.Batteries = append(p.Batteries, api.CtBattery{Name: "spare", Charge: 1, Rate: 1})
		return &p.Batteries[1]
	}
	runPlans(t, numberCases(1, 1000000, 4, 0, func(p *api.CtPlan) *int { return &p.Batteries[0].Charge }))
	runPlans(t, numberCases(1, 1000, 4, 0, func(p *api.CtPlan) *int { return &p.Batteries[0].Rate }))
	runPlans(t, numberCases(1, 1000000, 4, 1, func(p *api.CtPlan) *int { return &spare(p).Charge }))
	runPlans(t, numberCases(1, 1000, 4, 1, func(p *api.CtPlan) *int { return &spare(p).Rate }))
	for i := range 5 {
		most := example().Steps[i].Most
		runPlans(t, numberCases(0, most, 5, i, func(p *api.CtPlan) *int { return &p.Steps[i].Least }))
		runPlans(t, numberCases(7, 20000, 5, i, func(p *api.CtPlan) *int { p.Steps[i].Least = 7; return &p.Steps[i].Most }))
		runPlans(t, []planCase{{func(p *api.CtPlan) { p.Steps[i].Least, p.Steps[i].Most = 20000, 20000 }, 0, 0, api.OK}, {func(p *api.CtPlan) { p.Steps[i].Least, p.Steps[i].Most = 20001, 20001 }, 5, i, api.ErrRange}})
	}
	runPlans(t, numberCases(0, 400, 7, 0, func(p *api.CtPlan) *int { return &p.Window.Lo }))
	runPlans(t, numberCases(200, 100000, 7, 0, func(p *api.CtPlan) *int { return &p.Window.Hi }))
	runPlans(t, []planCase{{func(p *api.CtPlan) { p.Window = span(100000, 100000) }, 0, 0, api.OK}, {func(p *api.CtPlan) { p.Window = span(0, 0) }, 0, 0, api.OK}, {func(p *api.CtPlan) { p.Window = span(100001, 100001) }, 7, 0, api.ErrRange}, {func(p *api.CtPlan) { p.Window = span(-1, -1) }, 7, 0, api.ErrRange}})
}

// P8.1: names of stations, batteries and steps.
func TestCheckNames(t *testing.T) {
	two := func(p *api.CtPlan) {
		p.Batteries = append(p.Batteries, api.CtBattery{Name: "spare", Charge: 1, Rate: 1})
	}
	namesOf := func(p *api.CtPlan) map[int][]*string {
		return map[int][]*string{3: {&p.Stations[0], &p.Stations[1]}, 4: {&p.Batteries[0].Name, &p.Batteries[1].Name}, 5: {&p.Steps[0].Name, &p.Steps[1].Name, &p.Steps[4].Name}}
	}
	ats := map[int][]int{3: {0, 1}, 4: {0, 1}, 5: {0, 1, 4}}
	p := changed(two)
	for part, l := range namesOf(&p) {
		for i := range l {
			set := func(s string) func(p *api.CtPlan) {
				return func(p *api.CtPlan) { two(p); *namesOf(p)[part][i] = s }
			}
			for _, s := range []string{"", "Main", "1st", "-a", "a b", "a_b", "é", strings.Repeat("a", 25), "a\x00"} {
				runPlans(t, []planCase{{set(s), part, ats[part][i], api.ErrForm}})
			}
			for _, s := range []string{"a", "a-1", strings.Repeat("a", 24), "ann", "red"} {
				runPlans(t, []planCase{{set(s), 0, 0, api.OK}})
			}
			if i > 0 {
				runPlans(t, []planCase{{set(*l[0]), part, ats[part][i], api.ErrTwice}})
			}
		}
	}
	// Names of different kinds may be the same.
	runPlans(t, []planCase{{func(p *api.CtPlan) { p.Stations[1], p.Batteries[0].Name, p.Steps[2].Name = "check", "check", "check" }, 0, 0, api.OK}})
}

// fillUp gives a plan so many stations, batteries and steps, all of them with names of their own.
func fillUp(stations, batteries, steps int) func(p *api.CtPlan) {
	return func(p *api.CtPlan) {
		p.Stations, p.Batteries, p.Steps, p.Points = nil, nil, nil, nil
		for i := range stations {
			p.Stations = append(p.Stations, name("s", i))
		}
		for i := range batteries {
			p.Batteries = append(p.Batteries, api.CtBattery{Name: name("b", i), Charge: 1, Rate: 1})
		}
		for i := range steps {
			p.Steps = append(p.Steps, api.CtStep{Name: name("s", i)})
			p.Points = append(p.Points, i)
		}
	}
}

// P8.1: how many there are of everything, and which part comes first.
func TestCheckParts(t *testing.T) {
	all := func(p *api.CtPlan) {
		p.Pad.Wait, p.Steps = -1, nil
		p.Stations[1], p.Batteries[0].Rate, p.Points[1], p.Window.Lo = "range", 0, 5, -1
	}
	then := func(changes ...func(p *api.CtPlan)) func(p *api.CtPlan) {
		return func(p *api.CtPlan) {
			all(p)
			for _, change := range changes {
				change(p)
			}
		}
	}
	pad := func(p *api.CtPlan) { p.Pad.Wait = 0 }
	steps := func(p *api.CtPlan) { p.Steps = example().Steps; p.Steps[3].Least = 21 }
	stations := func(p *api.CtPlan) { p.Stations[1] = "safety" }
	batteries := func(p *api.CtPlan) { p.Batteries[0].Rate = 1 }
	least := func(p *api.CtPlan) { p.Steps[3].Least = 20 }
	points := func(p *api.CtPlan) { p.Points[1] = 4 }
	runPlans(t, []planCase{
		{func(p *api.CtPlan) {}, 0, 0, api.OK},
		{func(p *api.CtPlan) { *p = api.CtPlan{} }, 1, 0, api.ErrLong},
		{func(p *api.CtPlan) { *p = api.CtPlan{Pad: site()} }, 2, 0, api.ErrLong},
		{func(p *api.CtPlan) { p.Pad.Zones[1].Name = "Road" }, 1, 0, api.ErrForm},
		{func(p *api.CtPlan) { p.Pad.Doors[2].B = 2; p.Pad.Doors[2].A = 2 }, 1, 0, api.ErrArg},
		{func(p *api.CtPlan) { p.Pad.People[2].Name = "ann" }, 1, 0, api.ErrTwice},
		{func(p *api.CtPlan) { p.Pad.Panel = 3 }, 1, 0, api.ErrNone},
		{fillUp(8, 6, 16), 0, 0, api.OK},
		{fillUp(0, 0, 1), 0, 0, api.OK},
		{fillUp(9, 0, 1), 2, 0, api.ErrLong},
		{fillUp(0, 7, 1), 2, 0, api.ErrLong},
		{fillUp(0, 0, 17), 2, 0, api.ErrLong},
		{fillUp(0, 0, 0), 2, 0, api.ErrLong},
		{all, 1, 0, api.ErrRange},
		{then(pad), 2, 0, api.ErrLong},
		{then(pad, steps), 3, 1, api.ErrTwice},
		{then(pad, steps, stations), 4, 0, api.ErrRange},
		{then(pad, steps, stations, batteries), 5, 3, api.ErrRange},
		{then(pad, steps, stations, batteries, least), 6, 1, api.ErrNone},
		{then(pad, steps, stations, batteries, least, points), 7, 0, api.ErrRange},
		// The first element with an error decides, whichever error it is.
		{func(p *api.CtPlan) { p.Stations = []string{"a", "b", "a", ""} }, 3, 2, api.ErrTwice},
		{func(p *api.CtPlan) { p.Batteries = []api.CtBattery{{Name: "a"}, {}} }, 4, 0, api.ErrRange},
		{func(p *api.CtPlan) { p.Batteries = []api.CtBattery{{Name: "a", Charge: 1, Rate: 1}, {Name: "a"}} }, 4, 1, api.ErrTwice},
		{func(p *api.CtPlan) { p.Steps[1].Acts, p.Steps[2].Name = make([]api.PdAct, 9), "" }, 5, 1, api.ErrLong},
	})
}

// P8.1: what steps need, and what they do with batteries.
func TestCheckSteps(t *testing.T) {
	spares := func(p *api.CtPlan) {
		p.Batteries = append(p.Batteries, api.CtBattery{Name: "b", Charge: 1, Rate: 1}, api.CtBattery{Name: "c", Charge: 1, Rate: 1})
	}
	lists := []func(s *api.CtStep) *[]int{
		func(s *api.CtStep) *[]int { return &s.Need },
		func(s *api.CtStep) *[]int { return &s.On },
		func(s *api.CtStep) *[]int { return &s.Use },
		func(s *api.CtStep) *[]int { return &s.Off },
	}
	// The step 3 may need three others, and there are three batteries.
	for _, of := range lists {
		set := func(l ...int) func(p *api.CtPlan) {
			return func(p *api.CtPlan) { spares(p); *of(&p.Steps[3]) = l }
		}
		runPlans(t, []planCase{
			{set(), 0, 0, api.OK}, {set(0), 0, 0, api.OK}, {set(2), 0, 0, api.OK}, {set(0, 1, 2), 0, 0, api.OK}, {set(0, 2), 0, 0, api.OK},
			{set(3), 5, 3, api.ErrNone}, {set(-1), 5, 3, api.ErrNone}, {set(0, 1, 2, 3), 5, 3, api.ErrNone}, {set(math.MaxInt), 5, 3, api.ErrNone}, {set(math.MinInt, 0), 5, 3, api.ErrNone}, {set(0, 0, 4), 5, 3, api.ErrNone},
			{set(1, 1), 5, 3, api.ErrArg}, {set(1, 0), 5, 3, api.ErrArg}, {set(0, 2, 1), 5, 3, api.ErrArg}, {set(0, 1, 1), 5, 3, api.ErrArg},
		})
	}
	// Each error comes before those that are named after it, whichever list it is in.
	for _, a := range lists {
		for _, b := range lists {
			runPlans(t, []planCase{{func(p *api.CtPlan) {
				spares(p)
				s := &p.Steps[3]
				s.Need, s.On, s.Use, s.Off = nil, nil, nil, nil
				*a(s) = []int{1, 0}
				*b(s) = []int{3}
			}, 5, 3, api.ErrNone}, {func(p *api.CtPlan) { spares(p); *a(&p.Steps[3]), *b(&p.Steps[4]) = []int{1, 0}, []int{9} }, 5, 3, api.ErrArg}})
		}
		runPlans(t, []planCase{{func(p *api.CtPlan) { spares(p); *a(&p.Steps[3]) = []int{1, 0}; p.Steps[3].Most = -1 }, 5, 3, api.ErrArg}})
	}
	runPlans(t, []planCase{
		{func(p *api.CtPlan) { p.Steps[0].Need = []int{0} }, 5, 0, api.ErrNone},
		{func(p *api.CtPlan) { p.Steps[4].Need = []int{4} }, 5, 4, api.ErrNone},
		{func(p *api.CtPlan) { p.Steps[4].Need = []int{0, 1, 2, 3} }, 0, 0, api.OK},
		{func(p *api.CtPlan) { p.Steps[4].Name, p.Steps[4].Need = "Launch", []int{4} }, 5, 4, api.ErrForm},
		{func(p *api.CtPlan) { p.Steps[4].Name, p.Steps[4].Need = "poll", []int{4} }, 5, 4, api.ErrTwice},
		{func(p *api.CtPlan) { p.Steps[4].Most, p.Steps[4].Acts = 4, make([]api.PdAct, 9) }, 5, 4, api.ErrRange},
		{func(p *api.CtPlan) { p.Batteries, p.Steps = nil, p.Steps[:2] }, 5, 1, api.ErrNone},
	})
}

// P8.1: acts of steps.
func TestCheckActs(t *testing.T) {
	good := act(0, api.PdFire, ann, motor) // it would be refused, and is no error
	set := func(l ...api.PdAct) func(p *api.CtPlan) { return func(p *api.CtPlan) { p.Steps[2].Acts = l } }
	runPlans(t, []planCase{
		{set(slices.Repeat([]api.PdAct{good}, 8)...), 0, 0, api.OK},
		{set(slices.Repeat([]api.PdAct{good}, 9)...), 5, 2, api.ErrLong},
		{set(make([]api.PdAct, 9)...), 5, 2, api.ErrLong},
		{set(move(0, ann, bunker, bob), move(0, ann, road, -1)), 0, 0, api.OK},
		{set(act(1, api.PdFire, ann, motor)), 5, 2, api.ErrArg},
		{set(act(-1, api.PdFire, 9, motor)), 5, 2, api.ErrArg},
		{set(good, act(math.MaxInt, api.PdFire, ann, motor)), 5, 2, api.ErrArg},
		{set(api.PdAct{}), 5, 2, api.ErrArg},
		{set(act(0, 10, ann, motor)), 5, 2, api.ErrArg},
		{set(act(0, api.PdFire, 3, motor)), 5, 2, api.ErrNone},
		{set(good, good, act(0, api.PdFire, ann, 2)), 5, 2, api.ErrNone},
		{set(act(0, api.PdSound, ann, 2)), 5, 2, api.ErrArg},
		{set(move(0, ann, bunker, ann)), 5, 2, api.ErrArg},
		// The first act with an error decides.
		{set(act(0, api.PdFire, 3, motor), act(1, api.PdFire, ann, motor)), 5, 2, api.ErrNone},
		{set(act(1, api.PdFire, 3, motor), act(0, api.PdFire, 3, motor)), 5, 2, api.ErrArg},
		{func(p *api.CtPlan) { p.Pad.People = nil }, 0, 0, api.OK},
		{func(p *api.CtPlan) { p.Pad.People, p.Steps[4].Acts = nil, []api.PdAct{good} }, 5, 4, api.ErrNone},
	})
}

// P8.1: points.
func TestCheckPoints(t *testing.T) {
	set := func(l ...int) func(p *api.CtPlan) { return func(p *api.CtPlan) { p.Points = l } }
	runPlans(t, []planCase{
		{set(), 0, 0, api.OK}, {set(0, 1, 2, 3, 4), 0, 0, api.OK}, {set(4), 0, 0, api.OK}, {set(0, 4), 0, 0, api.OK},
		{set(5), 6, 0, api.ErrNone}, {set(-1), 6, 0, api.ErrNone}, {set(0, math.MinInt), 6, 1, api.ErrNone}, {set(0, 2, math.MaxInt), 6, 2, api.ErrNone},
		{set(0, 0), 6, 1, api.ErrArg}, {set(3, 2), 6, 1, api.ErrArg}, {set(0, 1, 2, 4, 3), 6, 4, api.ErrArg},
		{set(2, 1, 5), 6, 1, api.ErrArg}, {set(2, 5, 1), 6, 1, api.ErrNone}, {set(0, 1, 2, 3, 4, 4), 6, 5, api.ErrArg},
	})
}

// P8.1: the state at first.
func TestStart(t *testing.T) {
	s, e := count.Start(example())
	first := api.CtState{
		Pad:   api.PdState{Zones: []int{-1, -1, -1}, Holder: []int{-1, -1, -1}, Squibs: []int{0, 0}, Siren: -1},
		Begun: []int{-1, -1, -1, -1, -1}, Ended: []int{-1, -1, -1, -1, -1},
		Go: []bool{false, false}, Left: []int{1000}, On: []bool{false},
	}
	if !sameState(s, first) || e != api.OK {
		t.Errorf("Start = %v, %d", s, e)
	}
	s, e = count.Start(changed(fillUp(0, 3, 1)))
	if !slices.Equal(s.Left, []int{1, 1, 1}) || !slices.Equal(s.On, make([]bool, 3)) || len(s.Go) > 0 || !slices.Equal(s.Begun, []int{-1}) || e != api.OK {
		t.Errorf("Start = %v, %d", s, e)
	}
	if s, e := count.Start(api.CtPlan{}); !isZero(s) || e != api.ErrLong {
		t.Errorf("Start = %v, %d", s, e)
	}
}
