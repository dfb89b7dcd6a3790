package track_test

import (
	"math"
	"slices"
	"testing"

	"hangfire/api"
	"hangfire/track"
)

// P5.4, with the examples of the chapter.
func TestFailsAndSpare(t *testing.T) {
	l, agree, e := track.Fails(example(), 120, 150)
	if !slices.Equal(l, []int{0, 1, 2}) || !agree || e != api.OK {
		t.Errorf("Fails = %v, %t, %d", l, agree, e)
	}
	b, e := track.Spare(example(), 120, 150)
	if e != api.OK || b.At != 120 || b.Z != span(6500, 10500) {
		t.Errorf("Spare = %v, %d", b, e)
	}
	// Before the flight begins nobody contradicts anybody.
	l, agree, e = track.Fails(example(), 99, 150)
	if !slices.Equal(l, []int{0, 1, 2}) || !agree || e != api.OK {
		t.Errorf("Fails = %v, %t, %d", l, agree, e)
	}
	if b, e := track.Spare(example(), 99, 150); b != (api.TkBox{At: 99}) || e != api.OK {
		t.Errorf("Spare = %v, %d", b, e)
	}
}

// P5.4: without trackers the spare box is that of none; of a single one, too.
func TestSpareOfFew(t *testing.T) {
	want, _ := track.Where(slow(), 105, 0)
	l, agree, e := track.Fails(slow(), 105, 0)
	if len(l) != 0 || !agree || e != api.OK {
		t.Errorf("Fails = %v, %t, %d", l, agree, e)
	}
	if b, e := track.Spare(slow(), 105, 0); b != want || e != api.OK {
		t.Errorf("Spare = %v, %d", b, e)
	}
	x := with(slow(), []api.TkPlot{{Tick: 105, X: 5}})
	l, agree, e = track.Fails(x, 105, 105)
	if !slices.Equal(l, []int{0}) || !agree || e != api.OK {
		t.Errorf("Fails = %v, %t, %d", l, agree, e)
	}
	if b, e := track.Spare(x, 105, 105); b != want || e != api.OK {
		t.Errorf("Spare = %v, %d", b, e)
	}
	// Even if it contradicts what the flight can do.
	x.Plots[0].X = far
	l, agree, e = track.Fails(x, 105, 105)
	if !slices.Equal(l, []int{0}) || agree || e != api.OK {
		t.Errorf("Fails = %v, %t, %d", l, agree, e)
	}
	if b, e := track.Spare(x, 105, 105); b != want || e != api.OK {
		t.Errorf("Spare = %v, %d", b, e)
	}
}

// places returns a task with a tracker for each of the places, at the tick 110.
func places(l ...int) api.TkTask {
	var plots [][]api.TkPlot
	for _, n := range l {
		plots = append(plots, []api.TkPlot{{Tick: 110, X: n}})
	}
	return with(slow(), plots...)
}

// P5.4: who may fail is found by the others, and the spare box has the boxes of those alone.
func TestWhoMayFail(t *testing.T) {
	for _, c := range []struct {
		x     api.TkTask
		fails []int
		agree bool
		spare api.Span
	}{
		{places(40, 40, 40), []int{0, 1, 2}, true, span(40, 40)},
		{places(40, 41, 40), []int{1}, false, span(40, 40)},
		{places(39, 41), []int{0, 1}, false, span(39, 41)},
		{places(20, 39, 39, 39), []int{0}, false, span(39, 39)},
		{places(39, 39, 20), []int{2}, false, span(39, 39)},
		{places(39, 40, 41), nil, false, span(0, 0)},
		{places(39, 39, 41, 41), nil, false, span(0, 0)},
		{places(7, 7, far, 7, 7), []int{2}, false, span(7, 7)},
		{places(far, 7), []int{0}, false, span(7, 7)}, // the first one alone contradicts what the flight can do
		{places(far, -far), nil, false, span(0, 0)},
	} {
		l, agree, e := track.Fails(c.x, 110, 110)
		if !slices.Equal(l, c.fails) || agree != c.agree || e != api.OK {
			t.Errorf("Fails of %v = %v, %t, %d", c.x.Plots, l, agree, e)
		}
		b, e := track.Spare(c.x, 110, 110)
		if down := c.fails == nil; down != (e == api.ErrDown) || !down && (e != api.OK || b.X != c.spare || b.At != 110) || down && b != (api.TkBox{}) {
			t.Errorf("Spare of %v = %v, %d", c.x.Plots, b, e)
		}
		// By what was known one tick before there is no contradiction.
		l, agree, e = track.Fails(c.x, 110, 109)
		if len(l) != len(c.x.Trackers) || !agree || e != api.OK {
			t.Errorf("Fails of %v = %v, %t, %d", c.x.Plots, l, agree, e)
		}
	}
}

// P5.4: the spare box is the least one that has all six spans of those of all but one.
func TestSpareHasAll(t *testing.T) {
	x := with(slow(), []api.TkPlot{{Tick: 110, X: 10, Y: -7, Z: 3}}, []api.TkPlot{{Tick: 110, X: -20, Y: 9, Z: 30}})
	b, e := track.Spare(x, 110, 110)
	if e != api.OK || b.X != span(-20, 10) || b.Y != span(-7, 9) || b.Z != span(3, 30) {
		t.Errorf("Spare = %v, %d", b, e)
	}
	want, _ := track.Alone(x, 0, 110, 110)
	other, _ := track.Alone(x, 1, 110, 110)
	l, m, n := spansOf(&want), spansOf(&other), spansOf(&b)
	for i := range n {
		if *n[i] != span(min(l[i].Lo, m[i].Lo), max(l[i].Hi, m[i].Hi)) {
			t.Errorf("%d: Spare = %v, of %v and %v", i, *n[i], *l[i], *m[i])
		}
	}
}

// P5.5, with the examples of the chapter.
func TestBest(t *testing.T) {
	for now, want := range map[int]int{150: 2, 120: 1, 140: 2, 139: 0, 119: 0} {
		if n, e := track.Best(example(), 120, now); n != want || e != api.OK {
			t.Errorf("Best by %d = %d, %d", now, n, e)
		}
	}
}

// unsure returns a task whose trackers tell places at the tick 110, with errors.
func unsure(l ...[2]int) api.TkTask {
	var x []int
	for _, c := range l {
		x = append(x, c[0])
	}
	t := places(x...)
	for i, c := range l {
		t.Trackers[i].Error = c[1]
	}
	return t
}

// P5.5: the least wide one of those that have something in common with the spare box, of several the first one.
func TestWhoIsBest(t *testing.T) {
	for _, c := range []struct {
		x    api.TkTask
		want int
		e    api.Errno
	}{
		{slow(), 0, api.ErrNone},
		{unsure([2]int{40, 5}), 0, api.OK},
		{unsure([2]int{far, 5}), 0, api.ErrNone}, // it has no box of its own
		{unsure([2]int{40, 5}, [2]int{40, 5}), 0, api.OK},
		{unsure([2]int{40, 5}, [2]int{40, 4}), 1, api.OK},
		{unsure([2]int{40, 4}, [2]int{40, 5}), 0, api.OK},
		{unsure([2]int{40, 5}, [2]int{40, 3}, [2]int{40, 3}, [2]int{40, 4}), 1, api.OK},
		{unsure([2]int{0, 0}, [2]int{40, 5}, [2]int{40, 6}), 1, api.OK}, // the first one is the one that fails
		{unsure([2]int{34, 0}, [2]int{40, 5}, [2]int{40, 5}), 1, api.OK},
		{unsure([2]int{35, 0}, [2]int{40, 5}, [2]int{40, 5}), 0, api.OK}, // it has one place in common with the others
		{unsure([2]int{46, 0}, [2]int{40, 5}, [2]int{40, 5}), 1, api.OK},
		{unsure([2]int{45, 0}, [2]int{40, 5}, [2]int{40, 5}), 0, api.OK},
		{unsure([2]int{39, 0}, [2]int{40, 0}, [2]int{41, 0}), 0, api.ErrDown},
		{unsure([2]int{far, 0}, [2]int{40, 9}), 1, api.OK},
	} {
		if n, e := track.Best(c.x, 110, 110); n != c.want || e != c.e {
			t.Errorf("Best of %v, %v = %d, %d", c.x.Trackers, c.x.Plots, n, e)
		}
	}
}

// P5.5: the width is the greatest one of the three parts of the place.
func TestWidestPart(t *testing.T) {
	for part := range 3 {
		// The second one tells less at 50, but what it tells a tick later leaves 3 places there, in all parts but one.
		n := [3]int{59, 59, 59}
		n[part] = 0
		x := api.TkTask{Speed: 1, Accel: 1, Trackers: []api.TkTracker{{Name: "a", Error: 10}, {Name: "b", Error: 30}}}
		x.Plots = []api.TkPlot{{Tick: 50}, {Tracker: 1, Tick: 50}, {Tracker: 1, Tick: 51, X: n[0], Y: n[1], Z: n[2]}}
		b, e := track.Alone(x, 1, 50, 51)
		want := [3]api.Span{span(28, 30), span(28, 30), span(28, 30)}
		want[part] = span(-30, 30)
		if e != api.OK || [3]api.Span{b.X, b.Y, b.Z} != want {
			t.Errorf("Alone = %v, %d", b, e)
		}
		if n, e := track.Best(x, 50, 51); n != 0 || e != api.OK {
			t.Errorf("Best = %d, %d", n, e)
		}
		if l, e := track.Gaps(x, 50, 51, 51, 59); !slices.Equal(l, []api.TkGap{gap(50, 51)}) || e != api.OK {
			t.Errorf("Gaps = %v, %d", l, e)
		}
	}
}

// P5.5: a place in common is not enough, if there is no velocity.
func TestBestNeedsVelocity(t *testing.T) {
	for part := range 3 {
		at := func(tracker, tick, n int) api.TkPlot {
			l := [3]int{}
			l[part] = n
			return api.TkPlot{Tracker: tracker, Tick: tick, X: l[0], Y: l[1], Z: l[2]}
		}
		x := api.TkTask{Speed: 100, Accel: 1, Trackers: []api.TkTracker{{Name: "a"}, {Name: "b", Error: 1}, {Name: "c", Error: 1}}}
		// At 300 all are at 500; the first one is then 20 farther on, and the others 10 back.
		x.Plots = []api.TkPlot{at(0, 300, 500), at(0, 301, 520), at(1, 300, 500), at(1, 301, 490), at(2, 300, 500), at(2, 301, 490)}
		if n, e := track.Best(x, 300, 400); n != 1 || e != api.OK {
			t.Errorf("Best = %d, %d", n, e)
		}
		// They are 10 back, but may be wrong by 1: 11 at most; it is 11 back.
		x.Plots[1] = at(0, 301, 489)
		if n, e := track.Best(x, 300, 400); n != 0 || e != api.OK {
			t.Errorf("Best = %d, %d", n, e)
		}
	}
}

// gap is the ticks from one on and before another one.
func gap(from, until int) api.TkGap { return api.TkGap{From: from, Until: until} }

// P5.7, with the examples of the chapter.
func TestGaps(t *testing.T) {
	for _, c := range []struct {
		from, until, width int
		want               []api.TkGap
	}{
		{100, 104, 99, []api.TkGap{gap(101, 104)}}, {100, 104, 100, []api.TkGap{gap(102, 104)}}, {100, 104, 600, nil},
		{100, 105, 600, []api.TkGap{gap(104, 105)}}, {100, 104, 599, []api.TkGap{gap(103, 104)}}, {100, 104, 0, []api.TkGap{gap(101, 104)}},
		{104, 104, 0, nil}, {0, 100, 0, nil}, {0, 101, 0, nil}, {0, 102, 0, []api.TkGap{gap(101, 102)}}, {100, 300, math.MaxInt, nil},
	} {
		if l, e := track.Gaps(example(), c.from, c.until, 150, c.width); !slices.Equal(l, c.want) || e != api.OK {
			t.Errorf("Gaps of %v = %v, %d", c, l, e)
		}
	}
}

// P5.7: several gaps, by the width, and where there is no spare box.
func TestSeveralGaps(t *testing.T) {
	// The spare box is as wide as the reach, but near the ticks that both of them see.
	seen := []api.TkPlot{{Tick: 120}, {Tick: 140}}
	x := with(slow(), seen, seen)
	if l, e := track.Gaps(x, 110, 150, 140, 80); !slices.Equal(l, []api.TkGap{gap(110, 118), gap(123, 138), gap(143, 150)}) || e != api.OK {
		t.Errorf("Gaps = %v, %d", l, e)
	}
	if l, e := track.Gaps(x, 119, 142, 140, 79); !slices.Equal(l, []api.TkGap{gap(122, 139)}) || e != api.OK {
		t.Errorf("Gaps = %v, %d", l, e)
	}
	if l, e := track.Gaps(x, 110, 150, 139, 80); !slices.Equal(l, []api.TkGap{gap(110, 118), gap(123, 150)}) || e != api.OK {
		t.Errorf("Gaps = %v, %d", l, e)
	}
	// Three that contradict each other at 120, and thus at the ticks up to 8 away from those at which they leave no place.
	x = with(slow(), []api.TkPlot{{Tick: 120, Y: 41}}, []api.TkPlot{{Tick: 120, Y: 0}}, []api.TkPlot{{Tick: 120, Y: -41}})
	if l, e := track.Gaps(x, 100, 150, 120, math.MaxInt); !slices.Equal(l, []api.TkGap{gap(111, 130)}) || e != api.OK {
		t.Errorf("Gaps = %v, %d", l, e)
	}
}

// P5.7
func TestGapsErrors(t *testing.T) {
	for _, c := range []struct {
		from, until, now, width int
		e                       api.Errno
	}{
		{0, 0, 0, 0, api.OK}, {0, 200, 0, 0, api.OK}, {0, 201, 0, 0, api.ErrLong}, {99800, 100000, 100000, math.MaxInt, api.OK}, {99799, 100000, 0, 0, api.ErrLong},
		{0, 100000, 0, 0, api.ErrLong}, {0, 100001, 0, 0, api.ErrRange}, {-1, 0, 0, 0, api.ErrRange}, {100001, 100001, 0, 0, api.ErrRange}, {5, 4, 0, 0, api.ErrRange},
		{0, 201, -1, 0, api.ErrRange}, {0, 201, 100001, 0, api.ErrRange}, {0, 201, 0, -1, api.ErrRange}, {0, 0, 0, -1, api.ErrRange},
		{math.MinInt, math.MaxInt, 0, 0, api.ErrRange}, {0, math.MinInt, 0, 0, api.ErrRange}, {0, 0, math.MaxInt, 0, api.ErrRange}, {0, 0, 0, math.MinInt, api.ErrRange},
	} {
		if l, e := track.Gaps(example(), c.from, c.until, c.now, c.width); e != c.e || e != api.OK && len(l) > 0 {
			t.Errorf("Gaps of %v = %v, %d", c, l, e)
		}
	}
}
