package pad_test

import (
	"math"
	"strings"
	"testing"

	"hangfire/api"
	"hangfire/pad"
)

// everyError returns the errors of all functions but Check, with other arguments that are not valid either.
func everyError(p api.PdPad) []api.Errno {
	bad := api.PdState{Now: -1}
	_, a := pad.Near(p, -1, -1)
	_, b := pad.Start(p)
	_, c := pad.Danger(p, bad)
	return append([]api.Errno{a, b, c}, stateErrors(p, bad)...)
}

// stateErrors returns the errors of all functions with a state but Danger, with other arguments that are not valid.
func stateErrors(p api.PdPad, s api.PdState) []api.Errno {
	b, c := pad.CheckState(p, s), api.PdAct{At: -1}
	_, d := pad.Do(p, s, c)
	_, _, e := pad.Play(p, s, make([]api.PdAct, 61))
	_, f := pad.Owed(p, s, -1)
	_, g := pad.May(p, s, -2)
	return []api.Errno{b, d, e, f, g}
}

// padCase is a change of the pad of the examples, and what Check returns of it.
type padCase struct {
	change   func(p *api.PdPad)
	part, at int
	e        api.Errno
}

func runPads(t *testing.T, l []padCase) {
	t.Helper()
	for i, x := range l {
		p := example()
		x.change(&p)
		if part, at, e := pad.Check(p); part != x.part || at != x.at || e != x.e {
			t.Errorf("%d: Check = %d, %d, %d", i, part, at, e)
		}
		if x.e == api.OK {
			continue
		}
		for j, e := range everyError(p) {
			if e != x.e {
				t.Errorf("%d: the function %d returns %d", i, j, e)
			}
		}
	}
}

// numberCases sets a number, which is from least to most, in all ways; if it is not as stated, the error is in a part, at an index.
func numberCases(least, most, part, at int, of func(p *api.PdPad) *int) []padCase {
	set := func(n int) padCase {
		x := padCase{change: func(p *api.PdPad) { *of(p) = n }}
		if n < least || n > most {
			x.part, x.at, x.e = part, at, api.ErrRange
		}
		return x
	}
	return []padCase{set(least), set(most), set(least - 1), set(most + 1), set(math.MinInt), set(math.MaxInt)}
}

// P7.1: numbers.
func TestCheckNumbers(t *testing.T) {
	for i := range 3 {
		zone := func(p *api.PdPad) *api.PdZone {
			p.Squibs = nil // so that nothing is near the panel
			return &p.Zones[i]
		}
		wide := func(p *api.PdPad) *api.Area {
			zone(p).Area = area(-far, far, -far, far)
			return &p.Zones[i].Area
		}
		runPads(t, numberCases(-far, far, 2, i, func(p *api.PdPad) *int { return &wide(p).X.Lo }))
		runPads(t, numberCases(-far, far, 2, i, func(p *api.PdPad) *int { return &wide(p).X.Hi }))
		runPads(t, numberCases(-far, far, 2, i, func(p *api.PdPad) *int { return &wide(p).Y.Lo }))
		runPads(t, numberCases(-far, far, 2, i, func(p *api.PdPad) *int { return &wide(p).Y.Hi }))
		runPads(t, numberCases(0, 9, 2, i, func(p *api.PdPad) *int { return &zone(p).Grade }))
		runPads(t, numberCases(1, 8, 2, i, func(p *api.PdPad) *int { return &zone(p).Room }))
		runPads(t, numberCases(0, 9, 4, i, func(p *api.PdPad) *int { return &p.People[i].Grade }))
		runPads(t, []padCase{
			{func(p *api.PdPad) { wide(p).X = span(3, 3) }, 0, 0, api.OK},
			{func(p *api.PdPad) { wide(p).X = span(3, 2) }, 2, i, api.ErrRange},
			{func(p *api.PdPad) { wide(p).Y = span(-3, -3) }, 0, 0, api.OK},
			{func(p *api.PdPad) { wide(p).Y = span(-3, -4) }, 2, i, api.ErrRange},
		})
	}
	for i := range 2 {
		squib := func(p *api.PdPad) *api.PdSquib {
			p.Zones[0].Area = area(far, far, far, far)
			p.Squibs[i].Clear = 0
			return &p.Squibs[i]
		}
		runPads(t, numberCases(-far, far, 6, i, func(p *api.PdPad) *int { return &squib(p).At.X }))
		runPads(t, numberCases(-far, far, 6, i, func(p *api.PdPad) *int { return &squib(p).At.Y }))
		runPads(t, numberCases(0, far, 6, i, func(p *api.PdPad) *int { return &squib(p).Clear }))
		runPads(t, numberCases(0, 9, 6, i, func(p *api.PdPad) *int { return &squib(p).Grade }))
	}
	runPads(t, numberCases(0, 6000, 7, 0, func(p *api.PdPad) *int { return &p.Wait }))
}

// namesOf has, by part, the names of zones, people, keys and squibs, from the second one on.
func namesOf(p *api.PdPad) map[int][]*string {
	return map[int][]*string{
		2: {&p.Zones[1].Name, &p.Zones[2].Name},
		4: {&p.People[1].Name, &p.People[2].Name},
		5: {&p.Keys[1], &p.Keys[2]},
		6: {&p.Squibs[1].Name},
	}
}

// P7.1: names.
func TestCheckNames(t *testing.T) {
	p := example()
	firsts := map[int]string{2: p.Zones[0].Name, 4: p.People[0].Name, 5: p.Keys[0], 6: p.Squibs[0].Name}
	for part, l := range namesOf(&p) {
		for i := range l {
			set := func(name string) func(p *api.PdPad) { return func(p *api.PdPad) { *namesOf(p)[part][i] = name } }
			runPads(t, []padCase{
				{set("x"), 0, 0, api.OK},
				{set(strings.Repeat("x", 24)), 0, 0, api.OK},
				{set(""), part, i + 1, api.ErrForm},
				{set(strings.Repeat("x", 25)), part, i + 1, api.ErrForm},
				{set("Rail"), part, i + 1, api.ErrForm},
				{set("2"), part, i + 1, api.ErrForm},
				{set(firsts[part]), part, i + 1, api.ErrTwice},
				// What has the name of something else is not the same.
				{set("example"), 0, 0, api.OK},
			})
		}
	}
	runPads(t, []padCase{
		{func(p *api.PdPad) { p.Zones[2].Name = "road" }, 2, 2, api.ErrTwice},
		{func(p *api.PdPad) { p.People[2].Name = "bob" }, 4, 2, api.ErrTwice},
		{func(p *api.PdPad) { p.Keys[2] = "blue" }, 5, 2, api.ErrTwice},
		{func(p *api.PdPad) { p.Zones[0].Name = "-" }, 2, 0, api.ErrForm},
		{func(p *api.PdPad) { p.People[0].Name = "é" }, 4, 0, api.ErrForm},
		{func(p *api.PdPad) { p.Keys[0] = "red " }, 5, 0, api.ErrForm},
		{func(p *api.PdPad) { p.Squibs[0].Name = "m_" }, 6, 0, api.ErrForm},
		// Names of different things may be the same.
		{func(p *api.PdPad) {
			p.Zones[0].Name, p.People[0].Name, p.Keys[0], p.Squibs[0].Name = "a", "a", "a", "a"
		}, 0, 0, api.OK},
	})
}

// P7.1: how many there are.
func TestCheckLengths(t *testing.T) {
	names := []string{"a", "b", "c", "d", "e", "f", "g", "h", "i"}
	zones := func(n int) func(p *api.PdPad) {
		return func(p *api.PdPad) {
			*p = api.PdPad{}
			for i := range n {
				p.Zones = append(p.Zones, api.PdZone{Name: names[i], Room: 1})
			}
		}
	}
	doors := func(n int) func(p *api.PdPad) {
		return func(p *api.PdPad) {
			p.Doors = nil
			for range n {
				p.Doors = append(p.Doors, api.PdDoor{A: 2, B: -1})
			}
		}
	}
	people := func(n int) func(p *api.PdPad) {
		return func(p *api.PdPad) {
			p.People = nil
			for i := range n {
				p.People = append(p.People, api.PdPerson{Name: names[i]})
			}
		}
	}
	keys := func(n int) func(p *api.PdPad) {
		return func(p *api.PdPad) { p.Keys, p.Squibs = names[:n], nil }
	}
	squibs := func(n int) func(p *api.PdPad) {
		return func(p *api.PdPad) {
			p.Squibs = nil
			for i := range n {
				p.Squibs = append(p.Squibs, api.PdSquib{Name: names[i], Keys: []int{0}})
			}
		}
	}
	runPads(t, []padCase{
		{func(p *api.PdPad) { *p = api.PdPad{} }, 1, 0, api.ErrLong},
		{func(p *api.PdPad) { p.Zones = []api.PdZone{} }, 1, 0, api.ErrLong},
		{zones(1), 0, 0, api.OK}, {zones(8), 0, 0, api.OK}, {zones(9), 1, 0, api.ErrLong},
		{doors(0), 0, 0, api.OK}, {doors(24), 0, 0, api.OK}, {doors(25), 1, 0, api.ErrLong},
		{people(0), 0, 0, api.OK}, {people(8), 0, 0, api.OK}, {people(9), 1, 0, api.ErrLong},
		{keys(0), 0, 0, api.OK}, {keys(8), 0, 0, api.OK}, {keys(9), 1, 0, api.ErrLong},
		{squibs(0), 0, 0, api.OK}, {squibs(6), 0, 0, api.OK}, {squibs(7), 1, 0, api.ErrLong},
	})
}

// P7.1: doors, the keys of squibs, and the panel.
func TestCheckLinks(t *testing.T) {
	door := func(a, b int) func(p *api.PdPad) { return func(p *api.PdPad) { p.Doors[1] = api.PdDoor{A: a, B: b} } }
	keys := func(l ...int) func(p *api.PdPad) { return func(p *api.PdPad) { p.Squibs[1].Keys = l } }
	panel := func(n int) func(p *api.PdPad) { return func(p *api.PdPad) { p.Panel = n } }
	many := make([]int, 100000)
	runPads(t, []padCase{
		{func(p *api.PdPad) {}, 0, 0, api.OK},
		{door(-1, 2), 0, 0, api.OK}, {door(2, -1), 0, 0, api.OK}, {door(0, -1), 0, 0, api.OK}, {door(2, 0), 0, 0, api.OK},
		{door(-2, 0), 3, 1, api.ErrNone}, {door(3, 0), 3, 1, api.ErrNone}, {door(0, -2), 3, 1, api.ErrNone}, {door(0, 3), 3, 1, api.ErrNone},
		{door(math.MinInt, 0), 3, 1, api.ErrNone}, {door(0, math.MaxInt), 3, 1, api.ErrNone},
		{door(3, 3), 3, 1, api.ErrNone}, {door(-2, -2), 3, 1, api.ErrNone},
		{door(0, 0), 3, 1, api.ErrArg}, {door(2, 2), 3, 1, api.ErrArg}, {door(-1, -1), 3, 1, api.ErrArg},
		{keys(), 6, 1, api.ErrNone}, {keys(-1), 6, 1, api.ErrNone}, {keys(3), 6, 1, api.ErrNone}, {keys(0, 1, 2), 0, 0, api.OK}, {keys(0, 2), 0, 0, api.OK},
		{keys(0, 0), 6, 1, api.ErrArg}, {keys(1, 0), 6, 1, api.ErrArg}, {keys(0, 2, 1), 6, 1, api.ErrArg}, {keys(0, 2, 2), 6, 1, api.ErrArg},
		{keys(1, 0, 3), 6, 1, api.ErrNone}, {keys(0, math.MinInt), 6, 1, api.ErrNone}, {keys(0, math.MaxInt), 6, 1, api.ErrNone}, {keys(many...), 6, 1, api.ErrArg},
		{panel(0), 0, 0, api.OK}, {panel(1), 0, 0, api.OK}, {panel(2), 7, 0, api.ErrArg}, {panel(-1), 7, 0, api.ErrNone}, {panel(3), 7, 0, api.ErrNone},
		{panel(math.MinInt), 7, 0, api.ErrNone}, {panel(math.MaxInt), 7, 0, api.ErrNone},
		{func(p *api.PdPad) { p.Panel, p.Squibs[0].Clear = 1, 100001 }, 7, 0, api.ErrArg},
		{func(p *api.PdPad) { p.Panel, p.Squibs[1].Clear = 1, 100001 }, 7, 0, api.ErrArg},
		{func(p *api.PdPad) { p.Squibs[0].Clear, p.Squibs[1].Clear = 0, 0; p.Panel = 2 }, 0, 0, api.OK},
	})
}

// P7.1, R1: one part before the next one, one element before the next one, and the errors of an element as they are named.
func TestCheckOrder(t *testing.T) {
	runPads(t, []padCase{
		{func(p *api.PdPad) { p.Keys, p.Zones[0].Name = make([]string, 9), "" }, 1, 0, api.ErrLong},
		{func(p *api.PdPad) { p.Zones[2].Grade, p.Doors[0].A = 10, 9 }, 2, 2, api.ErrRange},
		{func(p *api.PdPad) { p.Doors[2].A, p.People[0].Name = 9, "" }, 3, 2, api.ErrNone},
		{func(p *api.PdPad) { p.People[2].Grade, p.Keys[0] = 10, "" }, 4, 2, api.ErrRange},
		{func(p *api.PdPad) { p.Keys[2], p.Squibs[0].Name = "red", "" }, 5, 2, api.ErrTwice},
		{func(p *api.PdPad) { p.Squibs[1].Keys, p.Panel = nil, 9 }, 6, 1, api.ErrNone},
		{func(p *api.PdPad) { p.Zones[0].Grade, p.Zones[1].Name = 10, "" }, 2, 0, api.ErrRange},
		{func(p *api.PdPad) { p.Doors[0], p.Doors[1].A = api.PdDoor{A: 1, B: 1}, 9 }, 3, 0, api.ErrArg},
		{func(p *api.PdPad) { p.People[0].Grade, p.People[1].Name = 10, "" }, 4, 0, api.ErrRange},
		{func(p *api.PdPad) { p.Keys[1], p.Keys[2] = "red", "" }, 5, 1, api.ErrTwice},
		{func(p *api.PdPad) { p.Squibs[0].Keys, p.Squibs[1].Name = []int{1, 0}, "" }, 6, 0, api.ErrArg},
		{func(p *api.PdPad) { p.Zones[1].Name, p.Zones[1].Room = "bunker", 0 }, 2, 1, api.ErrTwice},
		{func(p *api.PdPad) { p.Zones[0].Name, p.Zones[1].Name = "", "" }, 2, 0, api.ErrForm},
		{func(p *api.PdPad) { p.People[1].Name, p.People[1].Grade = "ann", -1 }, 4, 1, api.ErrTwice},
		{func(p *api.PdPad) { p.People[1].Name, p.People[1].Grade = "", -1 }, 4, 1, api.ErrForm},
		{func(p *api.PdPad) { p.Squibs[1] = api.PdSquib{Name: "motor", Clear: -1} }, 6, 1, api.ErrTwice},
		{func(p *api.PdPad) { p.Squibs[1] = api.PdSquib{Name: "m", Clear: -1} }, 6, 1, api.ErrRange},
		{func(p *api.PdPad) { p.Squibs[1] = api.PdSquib{Name: "m", Keys: []int{1, 0, 9}} }, 6, 1, api.ErrNone},
		{func(p *api.PdPad) { p.Panel, p.Wait = 3, -1 }, 7, 0, api.ErrNone},
		{func(p *api.PdPad) { p.Panel, p.Wait = 2, -1 }, 7, 0, api.ErrArg},
	})
}

// P7.2, with the examples of the chapter.
func TestNear(t *testing.T) {
	// The zone is the places with X from 10 to 20 and Y from -5 to 5.
	at := func(x, y, clear int) api.PdPad {
		return api.PdPad{
			Zones:  []api.PdZone{{Name: "a", Area: area(far, far, far, far), Room: 1}, {Name: "b", Area: area(10, 20, -5, 5), Room: 1}},
			Keys:   []string{"k"},
			Squibs: []api.PdSquib{{Name: "a", At: api.Place{X: -far, Y: -far}, Keys: []int{0}}, {Name: "b", At: api.Place{X: x, Y: y}, Clear: clear, Keys: []int{0}}},
		}
	}
	for i, c := range []struct {
		p           api.PdPad
		zone, squib int
		near        bool
	}{
		{example(), bunker, motor, false}, {example(), bunker, chute, false}, {example(), road, motor, false}, {example(), road, chute, false},
		{example(), rail, motor, true}, {example(), rail, chute, true},
		// In the zone, at its edges and its corners.
		{at(15, 0, 0), 1, 1, false}, {at(15, 0, 1), 1, 1, true}, {at(10, -5, 1), 1, 1, true}, {at(20, 5, 1), 1, 1, true}, {at(20, 5, 0), 1, 1, false},
		// To the west, the east, the south and the north.
		{at(7, 0, 3), 1, 1, false}, {at(7, 0, 4), 1, 1, true}, {at(23, -5, 3), 1, 1, false}, {at(23, -5, 4), 1, 1, true},
		{at(12, -8, 3), 1, 1, false}, {at(12, -8, 4), 1, 1, true}, {at(20, 8, 3), 1, 1, false}, {at(20, 8, 4), 1, 1, true},
		// Beside a corner: 3 and 4 away is 5 away, and 1 and 1 is less than 2.
		{at(7, -9, 5), 1, 1, false}, {at(7, -9, 6), 1, 1, true}, {at(23, 9, 5), 1, 1, false}, {at(24, 8, 6), 1, 1, true}, {at(6, 8, 5), 1, 1, false}, {at(21, -6, 1), 1, 1, false}, {at(21, -6, 2), 1, 1, true},
		// As far as it can be: from the corner -5, -5 of rail to 7071068, 7071068 there are 10000007.1 mm, to 7071062, 7071062 there are 9999998.7.
		{withAt(7071068), rail, motor, false}, {withAt(7071062), rail, motor, true},
		{at(-far, 0, far), 1, 1, false}, {at(-far+10, 0, far), 1, 1, false}, {at(-far+11, 0, far), 1, 1, true},
		{at(15, 0, 0), 0, 0, false},
	} {
		if near, e := pad.Near(c.p, c.zone, c.squib); near != c.near || e != api.OK {
			t.Errorf("%d: Near = %t, %d", i, near, e)
		}
	}
	for _, c := range [][2]int{{-1, 0}, {3, 0}, {0, -1}, {0, 2}, {math.MinInt, 0}, {2, math.MaxInt}, {math.MaxInt, math.MinInt}} {
		if near, e := pad.Near(example(), c[0], c[1]); near || e != api.ErrNone {
			t.Errorf("Near of %v = %t, %d", c, near, e)
		}
	}
}

// withAt returns the pad of the examples with the motor at a place to the north-east, as far as it can be cleared, without the chute, and with a bunker far away from it.
func withAt(n int) api.PdPad {
	p := example()
	p.Squibs = p.Squibs[:1]
	p.Squibs[0].At, p.Squibs[0].Clear = api.Place{X: n, Y: n}, far
	p.Zones[rail].Area = area(-5, -5, -5, -5)
	p.Zones[bunker].Area = area(-far, -far, -far, -far)
	return p
}
