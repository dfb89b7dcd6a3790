package recover_test

import (
	"math"
	"slices"
	"testing"

	"hangfire/api"
	"hangfire/recover"
)

// planCase is a plan, and what Judge returns of it.
type planCase struct {
	p  api.RcPlan
	at int
	e  api.Errno
}

func runPlans(t *testing.T, x api.RcTask, l []planCase) {
	t.Helper()
	for i, c := range l {
		if at, e := recover.Judge(x, c.p); at != c.at || e != c.e {
			t.Errorf("%d: Judge of %v = %d, %d, and not %d, %d", i, c.p, at, e, c.at, c.e)
		}
		if c.e == api.OK {
			continue
		}
		// The error comes first.
		if n, e := recover.Found(x, c.p, place(math.MinInt, 0)); n != 0 || e != c.e {
			t.Errorf("%d: Found = %d, %d, and not %d", i, n, e, c.e)
		}
	}
}

// set returns the first plan of the examples with another visit.
func set(i int, v api.RcVisit) api.RcPlan {
	p := first()
	p.Visits[i] = v
	return p
}

// leaving returns the first plan of the examples with other cells that are left.
func leaving(l ...api.RcLeft) api.RcPlan {
	p := first()
	p.Left = l
	return p
}

// upTo returns the first plan of the examples up to a visit, and with other ones.
func upTo(n int, l ...api.RcVisit) api.RcPlan {
	p := first()
	p.Visits = append(p.Visits[:n:n], l...)
	return p
}

// P10.6: visits of the task T, with which there is something wrong.
func TestJudgeVisits(t *testing.T) {
	const long = 1000000000
	runPlans(t, example(), []planCase{
		{first(), 0, api.OK},
		// The numbers of cells.
		{set(0, visit(-2, 25, 35)), 0, api.ErrNone},
		{set(1, visit(5, 45, 55)), 1, api.ErrNone},
		{set(2, visit(math.MaxInt, 0, 0)), 2, api.ErrNone},
		{set(3, visit(math.MinInt, 0, 0)), 3, api.ErrNone},
		{set(2, visit(0, 65, 75)), 2, api.ErrTwice},
		{set(2, visit(1, 0, 0)), 2, api.ErrTwice},
		{upTo(5, visit(3, 0, 0)), 5, api.ErrTwice},
		// Condition 1, for a cell and for Base.
		{set(0, visit(0, 24, 34)), 0, api.RcErrEarly},
		{set(0, visit(0, 24, 35)), 0, api.RcErrEarly},
		{set(0, visit(0, 25, 34)), 0, api.RcErrEarly},
		{set(1, visit(1, 44, 54)), 1, api.RcErrEarly},
		{set(1, visit(1, 44, 55)), 1, api.RcErrEarly},
		{set(1, visit(1, 45, 54)), 1, api.RcErrEarly},
		{set(1, visit(1, 46, 55)), 1, api.RcErrEarly},
		{set(4, visit(base, 154, 174)), 4, api.RcErrEarly},
		{set(4, visit(base, 154, 175)), 4, api.RcErrEarly},
		{set(4, visit(base, 155, 174)), 4, api.RcErrEarly},
		{set(4, visit(base, 155, 176)), 0, api.OK},
		{set(4, visit(base, 156, 176)), 0, api.OK},
		{set(4, visit(base, 155, 1000)), 0, api.OK},
		{set(4, visit(base, 155, long)), 0, api.OK},
		{set(4, visit(base, 155, long+1)), 4, api.RcErrEarly},
		{set(4, visit(base, long-20, long)), 0, api.OK},
		{set(4, visit(base, long-20, long+1)), 4, api.RcErrEarly},
		{set(4, visit(base, long+1, long+21)), 4, api.RcErrEarly},
		{set(4, visit(base, long+1, long)), 4, api.RcErrEarly},
		{set(4, visit(base, 155, math.MaxInt)), 4, api.RcErrEarly},
		{set(4, visit(base, math.MaxInt, math.MinInt)), 4, api.RcErrEarly},
		{set(4, visit(base, math.MaxInt, 175)), 4, api.RcErrEarly},
		{set(0, visit(0, math.MaxInt, 35)), 0, api.RcErrEarly},
		{set(4, visit(base, math.MinInt, 175)), 4, api.RcErrEarly},
		{set(0, visit(0, -long, -long)), 0, api.RcErrEarly},
		{set(0, visit(0, math.MinInt, math.MinInt)), 0, api.RcErrEarly},
		{set(0, visit(0, math.MaxInt, math.MaxInt)), 0, api.RcErrEarly},
		// Condition 2: the cell 2 opens at 100, and the cell 4 never does.
		{set(3, visit(2, 99, 109)), 3, api.RcErrClosed},
		{set(3, visit(2, 101, 111)), 4, api.RcErrEarly}, // Base is 45 ticks away
		{upTo(0, visit(2, 45, 55)), 0, api.RcErrClosed},
		{set(3, visit(4, 100, 110)), 3, api.RcErrClosed},
		{upTo(3, visit(4, 100, 110)), 3, api.RcErrClosed},
		// Several errors of one visit: the first one.
		{set(3, visit(2, 89, 99)), 3, api.RcErrEarly},
		{set(3, visit(2, 90, 99)), 3, api.RcErrEarly},
		{set(3, visit(2, 90, 101)), 3, api.RcErrEarly},
		{set(3, visit(2, 84, 1000)), 3, api.RcErrEarly},
		{set(3, visit(2, 1000, 2000)), 3, api.RcErrEarly},
		{set(3, visit(4, 1000, 1010)), 3, api.RcErrClosed},
		{set(3, visit(4, 1000, 1011)), 3, api.RcErrEarly},
		{set(3, visit(0, 1000, 2000)), 3, api.ErrTwice},
		// Several visits with an error: the first one.
		{upTo(0, visit(0, 24, 34), visit(7, 0, 0)), 0, api.RcErrEarly},
		{upTo(0, visit(4, 100, 110), visit(7, 0, 0)), 0, api.RcErrClosed},
		{upTo(1, visit(2, 200, 210), visit(7, 0, 0)), 1, api.RcErrFuel},
		// A visit comes before what is left.
		{api.RcPlan{Visits: []api.RcVisit{visit(0, 24, 34)}, Left: []api.RcLeft{left(7, 7)}}, 0, api.RcErrEarly},
		{api.RcPlan{Visits: []api.RcVisit{visit(0, 25, 35), visit(9, 45, 55)}, Left: []api.RcLeft{left(7, 7)}}, 1, api.ErrNone},
	})
	// The visit of the cell 2 is back at 154.
	runPlans(t, changed(func(t *api.RcTask) { t.Fuel = 153 }), []planCase{
		{set(3, visit(2, 99, 109)), 3, api.RcErrClosed},
		{set(3, visit(2, 100, 110)), 3, api.RcErrFuel},
	})
}

// P10.6: Until of the visit of a cell is From and Look; that of a visit of Base may be later than From and Turn.
func TestJudgeLook(t *testing.T) {
	const long = 1000000000
	runPlans(t, example(), []planCase{
		{set(0, visit(0, 25, 36)), 0, api.RcErrEarly},
		{set(1, visit(1, 45, 56)), 1, api.RcErrEarly},
		{set(1, visit(1, 45, 65)), 1, api.RcErrEarly}, // as long as Turn
		{set(2, visit(3, 65, 76)), 2, api.RcErrEarly},
		{set(3, visit(2, 100, 111)), 3, api.RcErrEarly},
		{set(3, visit(2, 100, long)), 3, api.RcErrEarly},
		// It may wait at Base, and in the air before a visit.
		{upTo(0, visit(base, 0, 25), visit(0, 50, 60), visit(1, 70, 80), visit(3, 90, 100), visit(2, 115, 125)), 0, api.OK},
		{upTo(0, visit(base, 0, 25), visit(0, 50, 60), visit(1, 71, 81), visit(3, 92, 102), visit(2, 120, 130)), 0, api.OK},
		// The last tick that a visit of a cell can end at.
		{upTo(0, visit(0, long-10, long)), 1, api.RcErrLeft},
		{upTo(0, visit(0, long-9, long+1)), 0, api.RcErrEarly},
		{upTo(0, visit(0, long-10, long+1)), 0, api.RcErrEarly},
	})
	// A cell whose middle is Base is a cell.
	over := rowWith(2, func(t *api.RcTask) { t.Base.X = 5 })
	runPlans(t, over, []planCase{
		{plan(visit(0, 0, 3), visit(1, 14, 17)), 0, api.OK},
		{plan(visit(0, 0, 4), visit(1, 15, 18)), 0, api.RcErrEarly},
		{plan(visit(0, 0, 3), visit(base, 3, 8), visit(1, 19, 22)), 0, api.OK},
		{plan(visit(0, 0, 3), visit(base, 3, 8), visit(1, 18, 21)), 2, api.RcErrEarly},
	})
	// The least numbers there are.
	least := api.RcTask{Size: 1, Speed: 1, Fuel: 1, Look: 1}
	runPlans(t, least, []planCase{
		{plan(visit(0, 0, 0)), 0, api.RcErrEarly},
		{plan(visit(0, 0, 1)), 0, api.OK},
		{plan(visit(0, 0, 2)), 0, api.RcErrEarly},
	})
}

// P10.6: condition 3 in the task T, with Fuel 200.
func TestJudgeFuel(t *testing.T) {
	runPlans(t, example(), []planCase{
		// Until 155 at the cell 2, 45 ticks from Base; it has left at 0.
		{upTo(3, visit(2, 145, 155)), 0, api.OK},
		{upTo(3, visit(2, 146, 156)), 3, api.RcErrFuel},
		// It need not go back; and how long it takes back is not asked.
		{upTo(4), 0, api.OK},
		{upTo(4, visit(base, 1000, 1020)), 0, api.OK},
		// It has left for the first cell, whenever it has been at Base before.
		{upTo(0, visit(0, 1025, 1035), visit(1, 1045, 1055), visit(3, 1065, 1075), visit(2, 1145, 1155)), 0, api.OK},
		{upTo(0, visit(0, 1025, 1035), visit(1, 1045, 1055), visit(3, 1065, 1075), visit(2, 1146, 1156)), 3, api.RcErrFuel},
		{upTo(0, visit(base, 0, 500), visit(0, 1025, 1035), visit(1, 1045, 1055), visit(3, 1065, 1075), visit(2, 1145, 1155)), 0, api.OK},
		{upTo(0, visit(base, 0, 500), visit(0, 1025, 1035), visit(1, 1045, 1055), visit(3, 1065, 1075), visit(2, 1146, 1156)), 4, api.RcErrFuel},
		// It has left anew at 110.
		{upTo(2, visit(base, 90, 110), visit(3, 147, 157), visit(2, 255, 265)), 0, api.OK},
		{upTo(2, visit(base, 90, 110), visit(3, 147, 157), visit(2, 256, 266)), 4, api.RcErrFuel},
		// It has left at 363 after several visits of Base: the cell 3 is 37 ticks away.
		{upTo(0, visit(0, 25, 35), visit(base, 60, 80), visit(base, 80, 100), visit(1, 135, 145), visit(base, 180, 200), visit(base, 300, 320), visit(3, 400, 410), visit(2, 508, 518)), 0, api.OK},
		{upTo(0, visit(0, 25, 35), visit(base, 60, 80), visit(base, 80, 100), visit(1, 135, 145), visit(base, 180, 200), visit(base, 300, 320), visit(3, 400, 410), visit(2, 509, 519)), 7, api.RcErrFuel},
	})
}

// P10.6: how many visits there are, all of them of Base.
func TestJudgeMany(t *testing.T) {
	x := changed(func(t *api.RcTask) { t.Turn, t.Fixes = 0, []api.RcFix{{X: -1, DX: -1}} })
	many := func(n int) api.RcPlan { return plan(slices.Repeat([]api.RcVisit{visit(base, 0, 0)}, n)...) }
	runPlans(t, x, []planCase{
		{many(0), 0, api.OK},
		{many(200), 0, api.OK},
		{many(201), 0, api.ErrLong},
		{plan(slices.Repeat([]api.RcVisit{visit(7, 0, 0)}, 201)...), 0, api.ErrLong},
		{plan(append(many(199).Visits, visit(0, 0, 0))...), 199, api.ErrNone},
		{plan(append(many(199).Visits, visit(base, -1, 0))...), 199, api.RcErrEarly},
		{api.RcPlan{Left: []api.RcLeft{left(0, api.RcFar)}}, 0, api.RcErrLeft},
		{api.RcPlan{Visits: many(3).Visits, Left: []api.RcLeft{left(base, api.RcFar)}}, 0, api.RcErrLeft},
	})
}

// P10.6: what is left.
func TestJudgeLeft(t *testing.T) {
	closed := left(4, api.RcClosed)
	runPlans(t, example(), []planCase{
		{leaving(), 0, api.RcErrLeft},
		{leaving(closed, closed), 1, api.RcErrLeft},
		{leaving(left(4, api.RcFar)), 0, api.RcErrLeft},
		{leaving(left(4, 0)), 0, api.RcErrLeft},
		{leaving(left(4, 3)), 0, api.RcErrLeft},
		{leaving(left(4, -1)), 0, api.RcErrLeft},
		{leaving(left(3, api.RcClosed), closed), 0, api.RcErrLeft},
		{leaving(left(-1, api.RcClosed), closed), 0, api.RcErrLeft},
		{leaving(closed, left(5, api.RcClosed)), 1, api.RcErrLeft},
		{leaving(left(math.MinInt, api.RcClosed)), 0, api.RcErrLeft},
		{leaving(left(math.MaxInt, api.RcClosed)), 0, api.RcErrLeft},
		{upTo(3), 1, api.RcErrLeft}, // the cell 2 is neither
	})
	// Nothing but the cell 0 is near enough: it is 57, and the others 77, 81 and 100 ticks.
	x := changed(func(t *api.RcTask) { t.Fuel = 76; t.Look = 7 })
	near := []api.RcVisit{visit(0, 25, 32), visit(base, 57, 77)}
	far := []api.RcLeft{left(1, api.RcFar), left(2, api.RcFar), left(3, api.RcFar), left(4, api.RcClosed)}
	with := func(i, why int) api.RcPlan {
		l := slices.Clone(far)
		l[i].Why = why
		return api.RcPlan{Visits: near, Left: l}
	}
	runPlans(t, x, []planCase{
		{api.RcPlan{Visits: near, Left: far}, 0, api.OK},
		{with(3, api.RcFar), 0, api.OK}, // both reasons are so
		{with(0, api.RcClosed), 0, api.RcErrLeft},
		{with(2, api.RcClosed), 2, api.RcErrLeft},
		{api.RcPlan{Visits: near, Left: far[:3]}, 3, api.RcErrLeft},
		{api.RcPlan{Visits: near, Left: far[1:]}, 3, api.RcErrLeft},
		{api.RcPlan{Visits: near, Left: []api.RcLeft{far[1], far[0], far[2], far[3]}}, 1, api.RcErrLeft},
		{api.RcPlan{Visits: near, Left: []api.RcLeft{far[0], far[1], far[3], far[2]}}, 3, api.RcErrLeft},
		{api.RcPlan{Left: append([]api.RcLeft{left(0, api.RcFar)}, far...)}, 0, api.RcErrLeft},
		{api.RcPlan{Left: far}, 4, api.RcErrLeft},
		// The reason counts, and not whether it was tried.
		{api.RcPlan{Visits: near, Left: []api.RcLeft{far[0], far[1], left(3, 7), left(9, 9)}}, 2, api.RcErrLeft},
	})
	// With the Fuel of the cell 1 this is not far any more.
	x.Fuel = 77
	runPlans(t, x, []planCase{{api.RcPlan{Visits: near, Left: far}, 0, api.RcErrLeft}})
}

// P10.7, with the examples of the chapter.
func TestFound(t *testing.T) {
	for i, c := range []struct {
		p       api.RcPlan
		x, y, n int
		e       api.Errno
	}{
		{first(), 1200, 300, 55, api.OK},
		{first(), 2550, 1550, 0, api.ErrDown},
		{first(), 0, 0, 35, api.OK},
		{first(), 2999, 999, 110, api.OK},
		{first(), 1000, 1000, 75, api.OK},
		{first(), 500, 1500, 0, api.ErrNone},
		{first(), -1, 0, 0, api.ErrNone},
		{first(), math.MaxInt, math.MinInt, 0, api.ErrNone},
		{upTo(3, visit(2, 145, 155)), 2000, 0, 155, api.OK},
		{upTo(3, visit(2, 100, 155)), 2000, 0, 0, api.RcErrEarly},
		{upTo(3), 1200, 300, 0, api.RcErrLeft},
		{leaving(), 1200, 300, 0, api.RcErrLeft},
		{set(0, visit(0, 24, 35)), 1200, 300, 0, api.RcErrEarly},
		{plan(slices.Repeat([]api.RcVisit{visit(base, 0, 0)}, 201)...), 1200, 300, 0, api.ErrLong},
	} {
		if n, e := recover.Found(example(), c.p, place(c.x, c.y)); n != c.n || e != c.e {
			t.Errorf("%d: Found = %d, %d, and not %d, %d", i, n, e, c.n, c.e)
		}
	}
}
