package hazard_test

import (
	"math"
	"slices"
	"testing"

	"hangfire/api"
	"hangfire/hazard"
)

// checkCase is a change of the map of the examples, and what Check returns of it.
type checkCase struct {
	change   func(m *api.HzMap)
	part, at int
	e        api.Errno
}

func runChecks(t *testing.T, l []checkCase) {
	t.Helper()
	for i, c := range l {
		m := example()
		c.change(&m)
		if part, at, e := hazard.Check(m); part != c.part || at != c.at || e != c.e {
			t.Errorf("%d: Check = %d, %d, %d", i, part, at, e)
		}
	}
}

// rangeCases sets a number, which is from least to most, in all ways; if it is not as stated, the error is in a part, at an index.
func rangeCases(least, most, part, at int, of func(m *api.HzMap) *int) []checkCase {
	set := func(n int) checkCase {
		c := checkCase{change: func(m *api.HzMap) {
			*of(m) = n
			if n >= 1 && n <= 20 { // in case that it is the number of columns, or rows
				m.People = make([]int, m.Cols*m.Rows)
			}
		}}
		if n < least || n > most {
			c.part, c.at, c.e = part, at, api.ErrRange
		}
		return c
	}
	return []checkCase{set(least), set(most), set(least - 1), set(most + 1), set(math.MinInt), set(math.MaxInt)}
}

// P4.1
func TestCheck(t *testing.T) {
	runChecks(t, rangeCases(-2000000000, 2000000000, 1, 0, func(m *api.HzMap) *int { return &m.Corner.X }))
	runChecks(t, rangeCases(-2000000000, 2000000000, 1, 0, func(m *api.HzMap) *int { return &m.Corner.Y }))
	runChecks(t, rangeCases(1, 100000, 1, 0, func(m *api.HzMap) *int { return &m.Size }))
	runChecks(t, rangeCases(1, 20, 1, 0, func(m *api.HzMap) *int { return &m.Cols }))
	runChecks(t, rangeCases(1, 20, 1, 0, func(m *api.HzMap) *int { return &m.Rows }))
	for i := range 6 {
		runChecks(t, rangeCases(0, 1000000, 2, i, func(m *api.HzMap) *int { return &m.People[i] })[:4])
	}
	runChecks(t, []checkCase{
		{func(m *api.HzMap) {}, 0, 0, api.OK},
		{func(m *api.HzMap) { m.Cols, m.Rows, m.People = 20, 20, make([]int, 400) }, 0, 0, api.OK},
		{func(m *api.HzMap) { m.Cols, m.Rows, m.People = 1, 1, []int{1000000} }, 0, 0, api.OK},
		{func(m *api.HzMap) { m.People[4] = math.MinInt }, 2, 4, api.ErrRange},
		{func(m *api.HzMap) { m.People[5] = math.MaxInt }, 2, 5, api.ErrRange},
		{func(m *api.HzMap) { m.People = m.People[:5] }, 2, 0, api.ErrArg},
		{func(m *api.HzMap) { m.People = append(m.People, 0) }, 2, 0, api.ErrArg},
		{func(m *api.HzMap) { m.People = nil }, 2, 0, api.ErrArg},
		{func(m *api.HzMap) { m.Cols, m.Rows = 2, 2 }, 2, 0, api.ErrArg},
		{func(m *api.HzMap) { m.Cols, m.Rows = 2, 3 }, 0, 0, api.OK},
		{func(m *api.HzMap) { m.Cols, m.Rows, m.People = 0, 0, nil }, 1, 0, api.ErrRange},
		// The first part with an error decides; in the second one the count comes first, and then the first cell.
		{func(m *api.HzMap) { m.Size, m.People = 0, nil }, 1, 0, api.ErrRange},
		{func(m *api.HzMap) { m.People = []int{0, -1, 0} }, 2, 0, api.ErrArg},
		{func(m *api.HzMap) { m.People[2], m.People[4] = -1, -1 }, 2, 2, api.ErrRange},
	})
}

// P4.1
func TestCells(t *testing.T) {
	all := []int{0, 1, 2, 3, 4, 5}
	for _, c := range []struct {
		a   api.Area
		l   []int
		out bool
		e   api.Errno
	}{
		{area(500000, 1500000, 0, 0), []int{0, 1}, false, api.OK},
		{area(-1, 999999, 0, 1000000), []int{0, 3}, true, api.OK},
		{wide(), all, false, api.OK},
		{area(0, 3000000, 0, 1999999), all, true, api.OK},
		{area(0, 2999999, 0, 2000000), all, true, api.OK},
		{area(-1, 2999999, 0, 1999999), all, true, api.OK},
		{area(0, 2999999, -1, 1999999), all, true, api.OK},
		{area(-2000000000, 2000000000, -2000000000, 2000000000), all, true, api.OK},
		{area(999999, 999999, 999999, 999999), []int{0}, false, api.OK},
		{area(999999, 1000000, 999999, 1000000), []int{0, 1, 3, 4}, false, api.OK},
		{area(1000000, 1999999, 1000000, 1000000), []int{4}, false, api.OK},
		{area(2000000, 5000000, 1999999, 2000000), []int{5}, true, api.OK},
		{area(3000000, 5000000, 0, 0), nil, true, api.OK},
		{area(-2000000000, -1, 0, 0), nil, true, api.OK},
		{area(0, 0, 2000000, 2000000), nil, true, api.OK},
		{area(0, 0, -5000000, -1), nil, true, api.OK},
		{area(1, 0, 0, 0), nil, false, api.ErrRange},
		{area(0, 0, 1, 0), nil, false, api.ErrRange},
		{area(-2000000001, 0, 0, 0), nil, false, api.ErrRange},
		{area(0, 2000000001, 0, 0), nil, false, api.ErrRange},
		{area(0, 0, -2000000001, 0), nil, false, api.ErrRange},
		{area(0, 0, 0, 2000000001), nil, false, api.ErrRange},
		{area(math.MinInt, math.MaxInt, 0, 0), nil, false, api.ErrRange},
		{area(0, 0, math.MaxInt, math.MinInt), nil, false, api.ErrRange},
	} {
		if l, out, e := hazard.Cells(example(), c.a); !slices.Equal(l, c.l) || out != c.out || e != c.e {
			t.Errorf("Cells of %v = %v, %t, %d", c.a, l, out, e)
		}
	}
}

// P4.1
func TestCell(t *testing.T) {
	for _, c := range []struct {
		x, y, cell int
		e          api.Errno
	}{
		{1000000, 1000000, 4, api.OK}, {0, -1, -1, api.OK}, {0, 0, 0, api.OK}, {-1, 0, -1, api.OK}, {999999, 999999, 0, api.OK}, {1000000, 0, 1, api.OK}, {0, 1000000, 3, api.OK},
		{2999999, 1999999, 5, api.OK}, {3000000, 1999999, -1, api.OK}, {2999999, 2000000, -1, api.OK}, {2000000000, -2000000000, -1, api.OK},
		{2000000001, 0, 0, api.ErrRange}, {-2000000001, 0, 0, api.ErrRange}, {0, 2000000001, 0, api.ErrRange}, {0, -2000000001, 0, api.ErrRange}, {math.MinInt, math.MaxInt, 0, api.ErrRange},
	} {
		if n, e := hazard.Cell(example(), api.Place{X: c.x, Y: c.y}); n != c.cell || e != c.e {
			t.Errorf("Cell of %d, %d = %d, %d", c.x, c.y, n, e)
		}
	}
	// The greatest map, and one that goes on beyond all places.
	far := api.HzMap{Corner: api.Place{X: -1000000000, Y: 2000000000}, Size: 100000, Cols: 20, Rows: 20, People: make([]int, 400)}
	for _, c := range []struct{ x, y, cell int }{{-1000000000, 2000000000, 0}, {-1000000001, 2000000000, -1}, {999999999, 2000000000, 19}, {1000000000, 2000000000, -1}, {0, 2000000000, 10}, {0, 1999999999, -1}} {
		if n, e := hazard.Cell(far, api.Place{X: c.x, Y: c.y}); n != c.cell || e != api.OK {
			t.Errorf("Cell of %d, %d = %d, %d", c.x, c.y, n, e)
		}
	}
}

// The error of the map comes first.
func TestMapFirst(t *testing.T) {
	bad := example()
	bad.People[3] = -1
	few := example()
	few.People = few.People[1:]
	for _, c := range []struct {
		m api.HzMap
		e api.Errno
	}{{bad, api.ErrRange}, {few, api.ErrArg}, {api.HzMap{}, api.ErrRange}} {
		none := area(1, 0, 0, 0)
		_, _, e1 := hazard.Cells(c.m, none)
		_, e2 := hazard.Cell(c.m, api.Place{X: math.MaxInt})
		_, _, e3 := hazard.Most(c.m, none, api.HzLaw{})
		_, e4 := hazard.Prove(c.m, none, api.HzLaw{}, api.HzSpread{Out: -1})
		_, e5 := hazard.Risk(c.m, make([]api.FlImpact, 13), nil)
		_, e6 := hazard.Risk(c.m, nil, nil)
		for i, e := range []api.Errno{e1, e2, e3, e4, e5, e6} {
			if e != c.e {
				t.Errorf("the error of function %d is %d, and not %d", i, e, c.e)
			}
		}
	}
}
