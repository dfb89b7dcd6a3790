package destruct_test

import (
	"math"
	"testing"

	"hangfire/api"
	"hangfire/destruct"
)

// everyError returns the errors of all functions but Check, with other arguments that are not valid either.
func everyError(p api.DePlan, t api.TkTask) []api.Errno {
	_, _, a := destruct.Fall(p, api.TkBox{At: -1})
	_, b := destruct.Side(p, area(span(1, 0), only(0)))
	_, c := destruct.Keeps(p, area(span(1, 0), only(0)))
	_, _, d := destruct.Sure(p, area(span(1, 0), only(0)))
	return append([]api.Errno{a, b, c, d}, taskErrors(p, t, -1)...)
}

// taskErrors returns the errors of all functions with a task.
func taskErrors(p api.DePlan, t api.TkTask, n int) []api.Errno {
	_, _, a := destruct.Used(p, t, n)
	_, b := destruct.Look(p, t, n)
	_, c := destruct.Decide(p, t, n, n)
	return []api.Errno{a, b, c}
}

// planCase is a change of the plan of the examples, and what Check returns of it.
type planCase struct {
	change   func(p *api.DePlan)
	part, at int
	e        api.Errno
}

func runPlans(t *testing.T, l []planCase) {
	t.Helper()
	for i, x := range l {
		p := example()
		x.change(&p)
		if part, at, e := destruct.Check(p); part != x.part || at != x.at || e != x.e {
			t.Errorf("%d: Check = %d, %d, %d", i, part, at, e)
		}
		if x.e == api.OK {
			continue
		}
		for j, e := range everyError(p, api.TkTask{From: -1}) {
			if e != x.e {
				t.Errorf("%d: the function %d returns %d", i, j, e)
			}
		}
	}
}

// numberCases sets a number, which is from least to most, in all ways; if it is not as stated, the error is in a part, at an index.
func numberCases(least, most, part, at int, of func(p *api.DePlan) *int) []planCase {
	set := func(n int) planCase {
		x := planCase{change: func(p *api.DePlan) { *of(p) = n }}
		if n < least || n > most {
			x.part, x.at, x.e = part, at, api.ErrRange
		}
		return x
	}
	return []planCase{set(least), set(most), set(least - 1), set(most + 1), set(math.MinInt), set(math.MaxInt)}
}

// P6.1
func TestCheckNumbers(t *testing.T) {
	wide := func(p *api.DePlan, i int) *api.DeLine {
		p.Lines[i] = api.DeLine{A: 1, B: 1, Keep: -offset, Line: offset}
		return &p.Lines[i]
	}
	for i := range 2 {
		runPlans(t, numberCases(-1000, 1000, 1, i, func(p *api.DePlan) *int { return &wide(p, i).A }))
		runPlans(t, numberCases(-1000, 1000, 1, i, func(p *api.DePlan) *int { return &wide(p, i).B }))
		runPlans(t, numberCases(-offset, offset, 1, i, func(p *api.DePlan) *int { return &wide(p, i).Keep }))
		runPlans(t, numberCases(-offset, offset, 1, i, func(p *api.DePlan) *int { return &wide(p, i).Line }))
	}
	runPlans(t, numberCases(1, 98, 2, 0, func(p *api.DePlan) *int { return &p.Gravity.Lo }))
	runPlans(t, numberCases(98, 200, 2, 0, func(p *api.DePlan) *int { return &p.Gravity.Hi }))
	runPlans(t, numberCases(0, 100, 2, 0, func(p *api.DePlan) *int { return &p.Wait }))
	runPlans(t, numberCases(0, 300, 2, 0, func(p *api.DePlan) *int { return &p.Blind }))
}

// P6.1
func TestCheck(t *testing.T) {
	many := func(n int) func(p *api.DePlan) {
		return func(p *api.DePlan) {
			p.Lines = nil
			for range n {
				p.Lines = append(p.Lines, api.DeLine{B: -3})
			}
		}
	}
	runPlans(t, []planCase{
		{func(p *api.DePlan) {}, 0, 0, api.OK},
		{func(p *api.DePlan) { *p = api.DePlan{} }, 1, 0, api.ErrLong},
		{many(0), 1, 0, api.ErrLong},
		{many(1), 0, 0, api.OK},
		{many(8), 0, 0, api.OK},
		{many(9), 1, 0, api.ErrLong},
		{func(p *api.DePlan) { p.Lines = []api.DeLine{} }, 1, 0, api.ErrLong},
		{func(p *api.DePlan) { p.Lines, p.Wait = make([]api.DeLine, 9), -1 }, 1, 0, api.ErrLong},
		{func(p *api.DePlan) { p.Lines[0].A = 0 }, 1, 0, api.ErrArg},
		{func(p *api.DePlan) { p.Lines[1].B = 0 }, 1, 1, api.ErrArg},
		{func(p *api.DePlan) { p.Lines[0] = p.Lines[1] }, 0, 0, api.OK},
		{func(p *api.DePlan) { p.Lines[1].Keep = 80000 }, 0, 0, api.OK},
		{func(p *api.DePlan) { p.Lines[1].Keep = 80001 }, 1, 1, api.ErrArg},
		{func(p *api.DePlan) { p.Lines[0].Line = 99999 }, 1, 0, api.ErrArg},
		{func(p *api.DePlan) { p.Lines[0].Line = -99999 }, 1, 0, api.ErrArg},
		// A number comes before both other errors of its line, and a line before the next one.
		{func(p *api.DePlan) { p.Lines[0] = api.DeLine{Keep: offset + 1, Line: offset} }, 1, 0, api.ErrRange},
		{func(p *api.DePlan) { p.Lines[0] = api.DeLine{A: 1, Keep: -offset, Line: -offset - 1} }, 1, 0, api.ErrRange},
		{func(p *api.DePlan) { p.Lines[0] = api.DeLine{Line: -offset - 1} }, 1, 0, api.ErrRange},
		{func(p *api.DePlan) { p.Lines[0].A, p.Lines[1].A = 0, 1001 }, 1, 0, api.ErrArg},
		{func(p *api.DePlan) { p.Lines[0].A, p.Lines[1].B = 1001, 0 }, 1, 0, api.ErrRange},
		{func(p *api.DePlan) { p.Lines[1].B, p.Gravity.Lo = 0, 0 }, 1, 1, api.ErrArg},
		{func(p *api.DePlan) { p.Gravity = span(1, 200) }, 0, 0, api.OK},
		{func(p *api.DePlan) { p.Gravity = span(99, 98) }, 2, 0, api.ErrRange},
		{func(p *api.DePlan) { p.Gravity = only(0) }, 2, 0, api.ErrRange},
		{func(p *api.DePlan) { p.Gravity = only(201) }, 2, 0, api.ErrRange},
	})
}

// The functions with a task return the error of track.Check behind that of Check, and before their own ones.
func TestTaskErrors(t *testing.T) {
	for _, c := range []struct {
		change func(x *api.TkTask)
		e      api.Errno
	}{
		{func(x *api.TkTask) { x.Trackers = make([]api.TkTracker, 6) }, api.ErrLong},
		{func(x *api.TkTask) { x.Speed = 0 }, api.ErrRange},
		{func(x *api.TkTask) { x.Trackers[1].Name = "" }, api.ErrForm},
		{func(x *api.TkTask) { x.Trackers[2].Name = "a" }, api.ErrTwice},
		{func(x *api.TkTask) { x.Plots[0].Tracker = 3 }, api.ErrNone},
	} {
		x := tracked()
		c.change(&x)
		for _, n := range []int{0, 25, -1} {
			for i, e := range taskErrors(example(), x, n) {
				if e != c.e {
					t.Errorf("the function %d returns %d at %d, and not %d", i, e, n, c.e)
				}
			}
		}
	}
}
