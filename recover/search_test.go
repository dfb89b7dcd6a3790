package recover_test

import (
	"testing"

	"hangfire/api"
	"hangfire/recover"
)

// searchCase is a task, and what Search returns of it.
type searchCase struct {
	x    api.RcTask
	want api.RcPlan
}

func runSearches(t *testing.T, l []searchCase) {
	t.Helper()
	for i, c := range l {
		p := searchOf(t, c.x)
		if !samePlan(p, c.want) {
			t.Errorf("%d: Search of %v = %v, and not %v", i, c.x, p, c.want)
		}
		if at, e := recover.Judge(c.x, p); at != 0 || e != api.OK {
			t.Errorf("%d: Judge = %d, %d", i, at, e)
		}
	}
}

// rowWith returns the task of a row of cells with a change.
func rowWith(n int, change func(t *api.RcTask)) api.RcTask {
	t := row(n)
	change(&t)
	return t
}

// first is the first search of the chapter's examples.
func first() api.RcPlan {
	return api.RcPlan{
		Visits: []api.RcVisit{visit(0, 25, 35), visit(1, 45, 55), visit(3, 65, 75), visit(2, 100, 110), visit(base, 155, 175)},
		Left:   []api.RcLeft{left(4, api.RcClosed)},
	}
}

// P10.5, with the examples of the chapter.
func TestSearch(t *testing.T) {
	fuel := func(n int) api.RcTask { return changed(func(t *api.RcTask) { t.Fuel = n }) }
	runSearches(t, []searchCase{
		{fuel(200), first()},
		{fuel(150), api.RcPlan{
			Visits: []api.RcVisit{visit(0, 25, 35), visit(1, 45, 55), visit(3, 65, 75), visit(base, 112, 132), visit(2, 177, 187), visit(base, 232, 252)},
			Left:   []api.RcLeft{left(4, api.RcClosed)},
		}},
		{fuel(99), api.RcPlan{
			Visits: []api.RcVisit{visit(0, 25, 35), visit(1, 45, 55), visit(base, 90, 110), visit(3, 147, 157), visit(base, 194, 214)},
			Left:   []api.RcLeft{left(2, api.RcFar), left(4, api.RcClosed)},
		}},
		// The visit of the cell 2 ends at 110, 45 ticks from Base: so much fuel is enough, and less is not.
		{fuel(155), first()},
		{fuel(154), api.RcPlan{
			Visits: []api.RcVisit{visit(0, 25, 35), visit(1, 45, 55), visit(3, 65, 75), visit(base, 112, 132), visit(2, 177, 187), visit(base, 232, 252)},
			Left:   []api.RcLeft{left(4, api.RcClosed)},
		}},
	})
}

// P10.5: cells in a row, with their middles 5, 16 and 27 ticks from Base.
func TestSearchRow(t *testing.T) {
	fuel := func(n, fuel int) api.RcTask { return rowWith(n, func(t *api.RcTask) { t.Fuel = fuel }) }
	runSearches(t, []searchCase{
		{fuel(1, 13), plan(visit(0, 5, 8), visit(base, 13, 17))},
		{fuel(1, 12), api.RcPlan{Left: []api.RcLeft{left(0, api.RcFar)}}},
		{fuel(3, 63), plan(visit(0, 5, 8), visit(1, 19, 22), visit(2, 33, 36), visit(base, 63, 67))},
		{fuel(3, 62), plan(visit(0, 5, 8), visit(1, 19, 22), visit(base, 38, 42), visit(2, 69, 72), visit(base, 99, 103))},
		{fuel(3, 57), plan(visit(0, 5, 8), visit(1, 19, 22), visit(base, 38, 42), visit(2, 69, 72), visit(base, 99, 103))},
		{fuel(3, 56), api.RcPlan{Visits: []api.RcVisit{visit(0, 5, 8), visit(1, 19, 22), visit(base, 38, 42)}, Left: []api.RcLeft{left(2, api.RcFar)}}},
		{fuel(3, 37), api.RcPlan{Visits: []api.RcVisit{visit(0, 5, 8), visit(base, 13, 17), visit(1, 33, 36), visit(base, 52, 56)}, Left: []api.RcLeft{left(2, api.RcFar)}}},
		// It begins at Start.
		{rowWith(1, func(t *api.RcTask) { t.Start, t.Turn = 100000, 0 }), plan(visit(0, 100005, 100008), visit(base, 100013, 100013))},
		// Of two cells as near as each other the first one comes next, wherever the helicopter is.
		{rowWith(3, func(t *api.RcTask) { t.Base.X = 16 }), plan(visit(1, 0, 3), visit(0, 14, 17), visit(2, 39, 42), visit(base, 53, 57))},
		{rowWith(2, func(t *api.RcTask) { t.Base.X, t.Speed = 10, 6 }), plan(visit(0, 1, 4), visit(1, 6, 9), visit(base, 10, 14))},
		// Middles are rounded down, below 0, too.
		{rowWith(1, func(t *api.RcTask) { t.Area, t.Base = area(-1, 0, 0, 0), place(1, 0) }), plan(visit(0, 2, 5), visit(base, 7, 11))},
		{rowWith(1, func(t *api.RcTask) { t.Area, t.Base = area(0, 1, 0, 0), place(1, 0) }), plan(visit(0, 1, 4), visit(base, 5, 9))},
		{rowWith(1, func(t *api.RcTask) { t.Area, t.Base = area(0, 0, -4, -1), place(0, 0) }), plan(visit(0, 3, 6), visit(base, 9, 13))},
	})
}

// P10.5: a cell whose middle is Base, where the fuel goes on being used.
func TestSearchAtBase(t *testing.T) {
	over := func(fuel int) api.RcTask { return rowWith(2, func(t *api.RcTask) { t.Base.X, t.Fuel = 5, fuel }) }
	runSearches(t, []searchCase{
		{over(28), plan(visit(0, 0, 3), visit(1, 14, 17), visit(base, 28, 32))},
		{over(27), plan(visit(0, 0, 3), visit(base, 3, 7), visit(1, 18, 21), visit(base, 32, 36))},
		{over(25), plan(visit(0, 0, 3), visit(base, 3, 7), visit(1, 18, 21), visit(base, 32, 36))},
		{over(24), api.RcPlan{Visits: []api.RcVisit{visit(0, 0, 3), visit(base, 3, 7)}, Left: []api.RcLeft{left(1, api.RcFar)}}},
	})
}

// P10.5: cells that open later, or never.
func TestSearchOpen(t *testing.T) {
	opens := func(x api.RcTask, cell, grant int) api.RcTask { return owned(x, area(11*cell, 11*cell, 0, 0), grant) }
	fuel := func(x api.RcTask, fuel int) api.RcTask { x.Fuel = fuel; return x }
	runSearches(t, []searchCase{
		// It waits at Base, without fuel; in the air only as long as the fuel lasts.
		{opens(fuel(row(1), 13), 0, 50), plan(visit(0, 50, 53), visit(base, 58, 62))},
		{opens(fuel(row(1), 13), 0, 100000), plan(visit(0, 100000, 100003), visit(base, 100008, 100012))},
		{opens(fuel(row(1), 13), 0, 5), plan(visit(0, 5, 8), visit(base, 13, 17))},
		{opens(fuel(row(1), 13), 0, 6), plan(visit(0, 6, 9), visit(base, 14, 18))},
		{opens(fuel(row(2), 58), 0, 50), plan(visit(1, 16, 19), visit(0, 50, 53), visit(base, 58, 62))},
		{opens(fuel(row(2), 57), 0, 50), plan(visit(1, 16, 19), visit(base, 35, 39), visit(0, 50, 53), visit(base, 58, 62))},
		// The fuel counts from when it has left for a cell that opens later.
		{opens(opens(fuel(row(2), 38), 0, 50), 1, 60), plan(visit(0, 50, 53), visit(1, 64, 67), visit(base, 83, 87))},
		{opens(opens(fuel(row(2), 37), 0, 50), 1, 60), plan(visit(0, 50, 53), visit(base, 58, 62), visit(1, 78, 81), visit(base, 97, 101))},
		// What ends first comes first, also if it is farther away.
		{opens(row(2), 0, 16), plan(visit(0, 16, 19), visit(1, 30, 33), visit(base, 49, 53))},
		{opens(row(2), 0, 17), plan(visit(1, 16, 19), visit(0, 30, 33), visit(base, 38, 42))},
		// A cell that never opens is left, near or far.
		{opens(row(2), 0, never), api.RcPlan{Visits: []api.RcVisit{visit(1, 16, 19), visit(base, 35, 39)}, Left: []api.RcLeft{left(0, api.RcClosed)}}},
		{opens(fuel(row(2), 1), 1, never), api.RcPlan{Left: []api.RcLeft{left(0, api.RcFar), left(1, api.RcClosed)}}},
		{opens(row(1), 0, never), api.RcPlan{Left: []api.RcLeft{left(0, api.RcClosed)}}},
		{opens(fuel(row(3), 13), 1, never), api.RcPlan{Visits: []api.RcVisit{visit(0, 5, 8), visit(base, 13, 17)}, Left: []api.RcLeft{left(1, api.RcClosed), left(2, api.RcFar)}}},
		// There is no cell.
		{rowWith(3, func(t *api.RcTask) { t.Fixes = []api.RcFix{{X: -1, DX: -1}} }), api.RcPlan{}},
	})
}
