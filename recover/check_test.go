package recover_test

import (
	"math"
	"slices"
	"testing"

	"hangfire/api"
	"hangfire/recover"
)

// far is the greatest number of a place of a task.
const far = 100000000

// everyError returns the errors of all functions with a task but Check, with other arguments that are not valid either, and the index of Judge.
func everyError(x api.RcTask) (l []api.Errno, at int) {
	p := plan(visit(7, 0, 0))
	_, a := recover.Cells(x)
	_, b := recover.Cell(x, place(math.MinInt, 0))
	_, c := recover.Flight(x, place(far+1, 0), place(0, 0))
	_, d := recover.Search(x)
	at, e := recover.Judge(x, p)
	_, f := recover.Found(x, p, place(math.MinInt, 0))
	return []api.Errno{a, b, c, d, e, f}, at
}

// taskCase is a change of the task T, and what Check returns of it.
type taskCase struct {
	change   func(t *api.RcTask)
	part, at int
	e        api.Errno
}

func runTasks(t *testing.T, l []taskCase) {
	t.Helper()
	for i, c := range l {
		x := changed(c.change)
		if part, at, e := recover.Check(x); part != c.part || at != c.at || e != c.e {
			t.Errorf("%d: Check of %v = %d, %d, %d, and not %d, %d, %d", i, x, part, at, e, c.part, c.at, c.e)
		}
		if c.e == api.OK {
			continue
		}
		errors, at := everyError(x)
		for j, e := range errors {
			if e != c.e || at != 0 {
				t.Errorf("%d: the function %d returns %d, at %d", i, j, e, at)
			}
		}
	}
}

// numberCases sets a number, which is from least to most, in all ways; if it is not as stated, the error is in a part, at an index.
func numberCases(least, most, part, at int, of func(t *api.RcTask) *int) []taskCase {
	set := func(n int) taskCase {
		c := taskCase{change: func(t *api.RcTask) { *of(t) = n }}
		if n < least || n > most {
			c.part, c.at, c.e = part, at, api.ErrRange
		}
		return c
	}
	return []taskCase{set(least), set(most), set(least - 1), set(most + 1), set(math.MinInt), set(math.MaxInt)}
}

// whole makes the area as great as possible, with few cells.
func whole(t *api.RcTask) {
	t.Area, t.Size = area(-far, far, -far, far), far
}

// P10.2: numbers of the task itself.
func TestCheckNumbers(t *testing.T) {
	ends := []func(t *api.RcTask) *int{
		func(t *api.RcTask) *int { whole(t); return &t.Area.X.Lo },
		func(t *api.RcTask) *int { whole(t); return &t.Area.X.Hi },
		func(t *api.RcTask) *int { whole(t); return &t.Area.Y.Lo },
		func(t *api.RcTask) *int { whole(t); return &t.Area.Y.Hi },
	}
	for _, of := range ends {
		runTasks(t, numberCases(-far, far, 1, 0, of))
	}
	runTasks(t, numberCases(1, far, 1, 0, func(t *api.RcTask) *int { t.Area = area(7, 9, -9, -7); return &t.Size }))
	runTasks(t, numberCases(-far, far, 4, 0, func(t *api.RcTask) *int { return &t.Base.X }))
	runTasks(t, numberCases(-far, far, 4, 0, func(t *api.RcTask) *int { return &t.Base.Y }))
	runTasks(t, numberCases(0, 100000, 4, 0, func(t *api.RcTask) *int { return &t.Start }))
	runTasks(t, numberCases(1, 1000000, 4, 0, func(t *api.RcTask) *int { return &t.Speed }))
	runTasks(t, numberCases(1, 100000, 4, 0, func(t *api.RcTask) *int { return &t.Fuel }))
	runTasks(t, numberCases(1, 6000, 4, 0, func(t *api.RcTask) *int { return &t.Look }))
	runTasks(t, numberCases(0, 6000, 4, 0, func(t *api.RcTask) *int { return &t.Turn }))
}

// P10.2: numbers of fixes, and of owners.
func TestCheckElementNumbers(t *testing.T) {
	for i := range 2 {
		fix := func(t *api.RcTask) *api.RcFix {
			t.Fixes = []api.RcFix{{DX: 1, DY: -1}, {DX: 1, DY: -1}}
			return &t.Fixes[i]
		}
		runTasks(t, numberCases(-far, far, 2, i, func(t *api.RcTask) *int { return &fix(t).X }))
		runTasks(t, numberCases(-far, far, 2, i, func(t *api.RcTask) *int { return &fix(t).Y }))
		runTasks(t, numberCases(-1000, 1000, 2, i, func(t *api.RcTask) *int { return &fix(t).DX }))
		runTasks(t, numberCases(-1000, 1000, 2, i, func(t *api.RcTask) *int { return &fix(t).DY }))
		runTasks(t, numberCases(0, 2000, 2, i, func(t *api.RcTask) *int { return &fix(t).Tan }))
		owner := func(t *api.RcTask) *api.RcOwner {
			t.Owners[i].Area = area(-far, far, -far, far)
			return &t.Owners[i]
		}
		runTasks(t, numberCases(-far, far, 3, i, func(t *api.RcTask) *int { return &owner(t).Area.X.Lo }))
		runTasks(t, numberCases(-far, far, 3, i, func(t *api.RcTask) *int { return &owner(t).Area.X.Hi }))
		runTasks(t, numberCases(-far, far, 3, i, func(t *api.RcTask) *int { return &owner(t).Area.Y.Lo }))
		runTasks(t, numberCases(-far, far, 3, i, func(t *api.RcTask) *int { return &owner(t).Area.Y.Hi }))
		runTasks(t, numberCases(-1, 100000, 3, i, func(t *api.RcTask) *int { return &owner(t).Grant }))
	}
}

// P10.2: the area and its cells.
func TestCheckArea(t *testing.T) {
	grid := func(cols, rows, size int) func(t *api.RcTask) {
		return func(t *api.RcTask) {
			t.Area, t.Size = area(-7, cols*size-8, 3, rows*size+2), size
		}
	}
	more := func(cols, rows, size int) func(t *api.RcTask) {
		return func(t *api.RcTask) {
			grid(cols, rows, size)(t)
			t.Area.X.Hi++
		}
	}
	runTasks(t, []taskCase{
		{func(t *api.RcTask) {}, 0, 0, api.OK},
		{func(t *api.RcTask) { *t = api.RcTask{} }, 1, 0, api.ErrRange},
		{func(t *api.RcTask) { t.Area.X = span(1, 0) }, 1, 0, api.ErrRange},
		{func(t *api.RcTask) { t.Area.Y = span(1, 0) }, 1, 0, api.ErrRange},
		{func(t *api.RcTask) { t.Area.X = only(0) }, 0, 0, api.OK},
		{func(t *api.RcTask) { t.Area = area(-far, -far, far, far) }, 0, 0, api.OK},
		{whole, 0, 0, api.OK},
		{grid(60, 1, 1), 0, 0, api.OK},
		{grid(61, 1, 1), 1, 0, api.ErrLong},
		{grid(1, 60, 100), 0, 0, api.OK},
		{grid(1, 61, 100), 1, 0, api.ErrLong},
		{grid(10, 6, 5), 0, 0, api.OK},
		{more(10, 6, 5), 1, 0, api.ErrLong},
		{more(9, 6, 5), 0, 0, api.OK},
		{grid(8, 8, 3), 1, 0, api.ErrLong},
		{grid(7, 9, 3), 1, 0, api.ErrLong},
		{grid(7, 8, 3), 0, 0, api.OK},
		{func(t *api.RcTask) { whole(t); t.Size = 1 }, 1, 0, api.ErrLong},
		{func(t *api.RcTask) { whole(t); t.Size, t.Base.X = 1, far+1 }, 1, 0, api.ErrLong},
		{func(t *api.RcTask) { whole(t); t.Size = 0 }, 1, 0, api.ErrRange},
	})
}

// P10.2: fixes, owners, and which error comes first.
func TestCheckElements(t *testing.T) {
	fixes := func(n int) func(t *api.RcTask) {
		return func(t *api.RcTask) { t.Fixes = slices.Repeat([]api.RcFix{{DX: 1}}, n) }
	}
	owners := func(n int) func(t *api.RcTask) {
		return func(t *api.RcTask) {
			t.Owners = nil
			for range n {
				*t = owned(*t, api.Area{}, 0)
			}
		}
	}
	runTasks(t, []taskCase{
		{fixes(0), 0, 0, api.OK},
		{fixes(6), 0, 0, api.OK},
		{fixes(7), 2, 0, api.ErrLong},
		{func(t *api.RcTask) { t.Fixes = make([]api.RcFix, 7) }, 2, 0, api.ErrLong},
		{func(t *api.RcTask) { t.Fixes[0].DX = 0 }, 2, 0, api.ErrArg},
		{func(t *api.RcTask) { t.Fixes[0].DX, t.Fixes[0].DY = 0, 1 }, 0, 0, api.OK},
		{func(t *api.RcTask) { fixes(6)(t); t.Fixes[5].DX = 0 }, 2, 5, api.ErrArg},
		{func(t *api.RcTask) { fixes(2)(t); t.Fixes[0].DX, t.Fixes[1].Tan = 0, -1 }, 2, 0, api.ErrArg},
		{func(t *api.RcTask) { t.Fixes[0].DX, t.Fixes[0].Tan = 0, 2001 }, 2, 0, api.ErrRange},
		{func(t *api.RcTask) { t.Fixes[0].DX, t.Owners[0].Name = 0, "" }, 2, 0, api.ErrArg},
		{owners(0), 0, 0, api.OK},
		{owners(6), 0, 0, api.OK},
		{owners(7), 3, 0, api.ErrLong},
		{func(t *api.RcTask) { t.Owners = make([]api.RcOwner, 7) }, 3, 0, api.ErrLong},
		{func(t *api.RcTask) { t.Owners[0].Name = "" }, 3, 0, api.ErrForm},
		{func(t *api.RcTask) { t.Owners[1].Name = "Lake" }, 3, 1, api.ErrForm},
		{func(t *api.RcTask) { t.Owners[1].Name = "a2345678901234567890-234" }, 0, 0, api.OK},
		{func(t *api.RcTask) { t.Owners[1].Name = "a2345678901234567890-2345" }, 3, 1, api.ErrForm},
		{func(t *api.RcTask) { t.Owners[1].Name = "farm" }, 3, 1, api.ErrTwice},
		{func(t *api.RcTask) { owners(6)(t); t.Owners[5].Name = t.Owners[2].Name }, 3, 5, api.ErrTwice},
		{func(t *api.RcTask) { t.Owners[0].Area.X = span(1, 0) }, 3, 0, api.ErrRange},
		{func(t *api.RcTask) { t.Owners[1].Area.Y = span(-6, -7) }, 3, 1, api.ErrRange},
		{func(t *api.RcTask) { t.Owners[1].Area = area(7, 7, -7, -7) }, 0, 0, api.OK},
		// A name comes before a number, and an owner before the next one.
		{func(t *api.RcTask) { t.Owners[1].Name, t.Owners[1].Grant = "", -2 }, 3, 1, api.ErrForm},
		{func(t *api.RcTask) { t.Owners[1].Name, t.Owners[1].Grant = "farm", -2 }, 3, 1, api.ErrTwice},
		{func(t *api.RcTask) { t.Owners[0].Grant, t.Owners[1].Name = -2, "" }, 3, 0, api.ErrRange},
		{func(t *api.RcTask) { t.Owners[0].Grant, t.Owners[1].Name = -2, "farm" }, 3, 0, api.ErrRange},
		// A part comes before the next one.
		{func(t *api.RcTask) { fixes(7)(t); t.Size = 0 }, 1, 0, api.ErrRange},
		{func(t *api.RcTask) { fixes(7)(t); t.Size = 1 }, 1, 0, api.ErrLong},
		{func(t *api.RcTask) { owners(7)(t); t.Fixes[0].Tan = -1 }, 2, 0, api.ErrRange},
		{func(t *api.RcTask) { owners(7)(t); t.Speed = 0 }, 3, 0, api.ErrLong},
		{func(t *api.RcTask) { t.Owners[1].Name, t.Speed = "farm", 0 }, 3, 1, api.ErrTwice},
		{func(t *api.RcTask) { t.Speed, t.Fuel, t.Look = 0, 0, 0 }, 4, 0, api.ErrRange},
	})
}
