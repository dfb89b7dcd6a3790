package recover_test

import (
	"math"
	"slices"
	"testing"

	"hangfire/api"
	"hangfire/recover"
)

// gridCase is a task, and the X and Y from which on its cells are, and when they open.
type gridCase struct {
	x    api.RcTask
	want [][3]int
}

func runGrids(t *testing.T, l []gridCase) {
	t.Helper()
	for i, c := range l {
		var got [][3]int
		for _, x := range cellsOf(t, c.x) {
			got = append(got, [3]int{x.Area.X.Lo, x.Area.Y.Lo, x.Open})
		}
		if !slices.Equal(got, c.want) {
			t.Errorf("%d: Cells of %v = %v, and not %v", i, c.x, got, c.want)
		}
	}
}

// P10.3, with the example of the chapter.
func TestCells(t *testing.T) {
	want := []api.RcCell{
		{Area: area(0, 999, 0, 999)},
		{Area: area(1000, 1999, 0, 999)},
		{Area: area(2000, 2999, 0, 999), Open: 100},
		{Area: area(1000, 1999, 1000, 1999)},
		{Area: area(2000, 2999, 1000, 1999), Open: never},
	}
	if l := cellsOf(t, example()); !slices.Equal(l, want) {
		t.Errorf("Cells = %v", l)
	}
	// The last ones end with the area, which begins below 0.
	x := changed(func(t *api.RcTask) { t.Area, t.Size, t.Fixes, t.Owners = area(-7, 2, -5, 1), 4, nil, nil })
	want = []api.RcCell{
		{Area: area(-7, -4, -5, -2)}, {Area: area(-3, 0, -5, -2)}, {Area: area(1, 2, -5, -2)},
		{Area: area(-7, -4, -1, 1)}, {Area: area(-3, 0, -1, 1)}, {Area: area(1, 2, -1, 1)},
	}
	if l := cellsOf(t, x); !slices.Equal(l, want) {
		t.Errorf("Cells = %v", l)
	}
	x.Area, x.Size = area(3, 3, -4, -4), far
	if l := cellsOf(t, x); !slices.Equal(l, []api.RcCell{{Area: area(3, 3, -4, -4)}}) {
		t.Errorf("Cells = %v", l)
	}
	x.Area = area(-far, far, -far, far)
	if l := cellsOf(t, x); len(l) != 9 || l[8] != (api.RcCell{Area: area(far, far, far, far)}) || l[1] != (api.RcCell{Area: area(0, far-1, -far, -1)}) {
		t.Errorf("Cells = %v", l)
	}
}

// P10.3: which cells a fix rules out, of 5 by 4 cells of 10 mm.
func TestRuledOut(t *testing.T) {
	with := func(l ...api.RcFix) api.RcTask {
		return changed(func(t *api.RcTask) { t.Area, t.Size, t.Fixes, t.Owners = area(-20, 29, -20, 19), 10, l, nil })
	}
	runGrids(t, []gridCase{
		// As wide as it is forward.
		{with(api.RcFix{DX: 1, Tan: 1000}), [][3]int{{10, -20}, {20, -20}, {0, -10}, {10, -10}, {20, -10}, {0, 0}, {10, 0}, {20, 0}, {10, 10}, {20, 10}}},
		{with(api.RcFix{DX: 7, Tan: 1000}), [][3]int{{10, -20}, {20, -20}, {0, -10}, {10, -10}, {20, -10}, {0, 0}, {10, 0}, {20, 0}, {10, 10}, {20, 10}}},
		// To the north, and to the west and the south.
		{with(api.RcFix{DY: 1, Tan: 1000}), [][3]int{{-10, 0}, {0, 0}, {-20, 10}, {-10, 10}, {0, 10}, {10, 10}}},
		{with(api.RcFix{DX: -1, DY: -1, Tan: 1000}), [][3]int{{-20, -20}, {-10, -20}, {0, -20}, {-20, -10}, {-10, -10}, {0, -10}, {-20, 0}, {-10, 0}, {0, 0}}},
		// Nothing aside: the line itself, which is in the first row above 0.
		{with(api.RcFix{DX: 1}), [][3]int{{0, 0}, {10, 0}, {20, 0}}},
		{with(api.RcFix{X: 9, Y: -1, DX: 1}), [][3]int{{0, -10}, {10, -10}, {20, -10}}},
		{with(api.RcFix{X: 10, Y: -1, DX: 1}), [][3]int{{10, -10}, {20, -10}}},
		{with(api.RcFix{X: 19, Y: 19, DX: -1}), [][3]int{{-20, 10}, {-10, 10}, {0, 10}, {10, 10}}},
		{with(api.RcFix{X: 29, Y: 19, DX: 1, DY: 1, Tan: 2000}), [][3]int{{20, 10}}},
		{with(api.RcFix{X: 30, Y: 19, DX: 1, Tan: 2000}), nil},
		{with(api.RcFix{X: 29, Y: 20, DY: 1, Tan: 2000}), nil},
		// As much aside as Tan says, and 1 mm more.
		{with(api.RcFix{X: -71, Y: -40, DX: 1, Tan: 200}), [][3]int{{20, -20}}},
		{with(api.RcFix{X: -70, Y: -40, DX: 1, Tan: 200}), nil},
		{with(api.RcFix{X: -71, Y: 39, DX: 1, Tan: 200}), [][3]int{{20, 10}}},
		{with(api.RcFix{X: -70, Y: 39, DX: 1, Tan: 200}), nil},
		// Each condition is met by some corner of the cell from -10, 0 on, though no place of it agrees.
		{with(api.RcFix{X: 0, Y: 1, DX: 1, DY: 1}), [][3]int{{-10, 0}, {0, 0}, {0, 10}, {10, 10}}},
		// Several fixes: each of them rules out cells.
		{with(api.RcFix{X: 9, Y: -1, DX: 1}, api.RcFix{X: 5, Y: 5, DY: -1}), [][3]int{{0, -10}}},
		{with(api.RcFix{X: 5, Y: 5, DY: -1}, api.RcFix{X: 9, Y: -1, DX: 1}), [][3]int{{0, -10}}},
		{with(api.RcFix{DX: 1}, api.RcFix{X: -1, DX: -1}), nil},
		// As great as possible.
		{with(api.RcFix{X: -far, Y: -far, DX: 1000, DY: 1000}), [][3]int{{-20, -20}, {-10, -10}, {0, 0}, {10, 10}}},
		{with(api.RcFix{X: far, Y: far, DX: -1000, DY: -1000, Tan: 0}), [][3]int{{-20, -20}, {-10, -10}, {0, 0}, {10, 10}}},
		{with(api.RcFix{X: far, Y: far, DX: 1000, DY: 1000, Tan: 2000}), nil},
	})
}

// P10.3: when cells open, of three cells of 10 mm.
func TestOpen(t *testing.T) {
	with := func(l ...api.RcOwner) api.RcTask {
		return changed(func(t *api.RcTask) {
			t.Area, t.Size, t.Fixes, t.Owners = area(0, 29, 0, 9), 10, nil, nil
			for _, o := range l {
				*t = owned(*t, o.Area, o.Grant)
			}
		})
	}
	opens := func(a, b, c int) [][3]int { return [][3]int{{0, 0, a}, {10, 0, b}, {20, 0, c}} }
	owner := func(a api.Area, grant int) api.RcOwner { return api.RcOwner{Area: a, Grant: grant} }
	runGrids(t, []gridCase{
		{with(), opens(0, 0, 0)},
		{with(owner(area(0, 29, 0, 9), 0)), opens(0, 0, 0)},
		{with(owner(area(10, 19, 0, 9), 7)), opens(0, 7, 0)},
		{with(owner(area(9, 20, 0, 9), 7)), opens(7, 7, 7)},
		{with(owner(area(9, 9, 9, 9), 7)), opens(7, 0, 0)},
		{with(owner(area(20, 20, -5, 0), 7)), opens(0, 0, 7)},
		{with(owner(area(-far, far, -far, far), 7)), opens(7, 7, 7)},
		{with(owner(area(12, 13, 4, 4), 7)), opens(0, 7, 0)},
		{with(owner(area(30, 40, 0, 9), 7), owner(area(-9, -1, 0, 9), 7), owner(area(0, 29, 10, 20), 7), owner(area(0, 29, -20, -1), never)), opens(0, 0, 0)},
		// The greatest one, whichever is first; and never, before and behind it.
		{with(owner(area(0, 19, 0, 9), 7), owner(area(10, 29, 0, 9), 9)), opens(7, 9, 9)},
		{with(owner(area(0, 19, 0, 9), 9), owner(area(10, 29, 0, 9), 7)), opens(9, 9, 7)},
		{with(owner(area(0, 19, 0, 9), never), owner(area(10, 29, 0, 9), 100000)), opens(never, never, 100000)},
		{with(owner(area(0, 19, 0, 9), 100000), owner(area(10, 29, 0, 9), never)), opens(100000, never, never)},
		{with(owner(area(0, 29, 0, 9), 5), owner(area(0, 0, 0, 0), never), owner(area(0, 29, 0, 9), 6)), opens(never, 6, 6)},
	})
}

// P10.3, with the examples of the chapter.
func TestCell(t *testing.T) {
	for i, c := range []struct {
		x, y, want int
		e          api.Errno
	}{
		{1200, 300, 1, api.OK},
		{500, 1500, 0, api.ErrNone},
		{2550, 1550, 4, api.OK},
		{0, 0, 0, api.OK},
		{999, 999, 0, api.OK},
		{1000, 999, 1, api.OK},
		{999, 1000, 0, api.ErrNone},
		{1000, 1000, 3, api.OK},
		{2999, 0, 2, api.OK},
		{2999, 1999, 4, api.OK},
		{3000, 1999, 0, api.ErrNone},
		{2999, 2000, 0, api.ErrNone},
		{-1, 0, 0, api.ErrNone},
		{0, -1, 0, api.ErrNone},
		{math.MinInt, 0, 0, api.ErrNone},
		{0, math.MaxInt, 0, api.ErrNone},
	} {
		if n, e := recover.Cell(example(), place(c.x, c.y)); n != c.want || e != c.e {
			t.Errorf("%d: Cell of %d, %d = %d, %d", i, c.x, c.y, n, e)
		}
	}
}

// P10.4, with the examples of the chapter.
func TestFlight(t *testing.T) {
	b := example().Base
	for i, c := range []struct {
		speed int
		a, b  api.Place
		want  int
	}{
		{100, b, place(499, 499), 25},
		{100, b, place(1499, 1499), 37},
		{100, b, b, 0},
		{1, place(3, 4), place(0, 0), 5},
		{1, place(0, 0), place(-3, 4), 5},
		{5, place(1, 2), place(4, -2), 1},
		{4, place(1, 2), place(4, -2), 2},
		{6, place(1, 2), place(4, -2), 1},
		{1, place(0, 0), place(1, 1), 2}, // 1 squared is below 2
		{1, place(0, 0), place(2, 2), 3},
		{1, place(0, 0), place(2, 1), 3},
		{2, place(0, 0), place(2, 1), 2},
		{3, place(0, 0), place(2, 1), 1},
		{1, place(0, 0), place(0, -1), 1},
		{1000000, place(0, 0), place(1, 0), 1},
		{1000000, place(0, 0), place(30000000, 40000000), 50},
		{1000000, place(0, 0), place(30000001, 40000000), 51},
		{1000000, place(0, 0), place(30000000, 39999999), 50},
		{1, place(-far, -far), place(far, far), 282842713},
		{1, place(far, -far), place(-far, far), 282842713},
		{1, place(far, 0), place(-far, 0), 200000000},
		{1000000, place(-far, far), place(far, -far), 283},
		{999999, place(-far, 0), place(far, 0), 201},
	} {
		x := changed(func(t *api.RcTask) { t.Speed = c.speed })
		if n, e := recover.Flight(x, c.a, c.b); n != c.want || e != api.OK {
			t.Errorf("%d: Flight = %d, %d, and not %d", i, n, e, c.want)
		}
	}
	for _, n := range []int{-far - 1, far + 1, math.MinInt, math.MaxInt} {
		for _, p := range []api.Place{place(n, 0), place(0, n)} {
			x, e1 := recover.Flight(example(), p, b)
			y, e2 := recover.Flight(example(), b, p)
			if x != 0 || y != 0 || e1 != api.ErrRange || e2 != api.ErrRange {
				t.Errorf("Flight from, and to, %v = %d, %d, and %d, %d", p, x, e1, y, e2)
			}
		}
	}
}
