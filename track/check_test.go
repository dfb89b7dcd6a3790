package track_test

import (
	"math"
	"strings"
	"testing"

	"hangfire/api"
	"hangfire/track"
)

const (
	far  = 2000000000 // a place
	fast = 1000000    // a speed
	away = 100000000  // a tracker
)

// manyTrackers returns n trackers.
func manyTrackers(n int) []api.TkTracker {
	var l []api.TkTracker
	for i := range n {
		l = append(l, api.TkTracker{Name: string(rune('a' + i))})
	}
	return l
}

// manyPlots returns n plots of the tracker 0.
func manyPlots(n int) []api.TkPlot {
	var l []api.TkPlot
	for i := range n {
		l = append(l, api.TkPlot{Tick: 100 + i})
	}
	return l
}

// taskCase is a change of the task of the examples, and what Check returns of it.
type taskCase struct {
	change   func(t *api.TkTask)
	part, at int
	e        api.Errno
}

// everyError returns the errors of all functions with a task but Check, with numbers that are not valid where there are some.
func everyError(t api.TkTask, n int) []api.Errno {
	_, a := track.Width(t, n)
	_, b := track.Known(t, n)
	_, c := track.Reach(t, n)
	_, d := track.Where(t, n, n)
	_, e := track.Alone(t, n, n, n)
	_, _, f := track.Fails(t, n, n)
	_, g := track.Spare(t, n, n)
	_, h := track.Best(t, n, n)
	_, i := track.Ahead(t, api.TkBox{At: n}, n)
	_, j := track.Gaps(t, n, n, n, n)
	return []api.Errno{a, b, c, d, e, f, g, h, i, j}
}

func runTasks(t *testing.T, l []taskCase) {
	t.Helper()
	for i, x := range l {
		task := example()
		x.change(&task)
		if part, at, e := track.Check(task); part != x.part || at != x.at || e != x.e {
			t.Errorf("%d: Check = %d, %d, %d", i, part, at, e)
		}
		if x.e == api.OK {
			continue
		}
		for j, e := range everyError(task, -1) {
			if e != x.e {
				t.Errorf("%d: the function %d returns %d", i, j, e)
			}
		}
	}
}

// numberCases sets a number, which is from least to most, in all ways; if it is not as stated, the error is in a part, at an index.
func numberCases(least, most, part, at int, of func(t *api.TkTask) *int) []taskCase {
	set := func(n int) taskCase {
		x := taskCase{change: func(t *api.TkTask) { *of(t) = n }}
		if n < least || n > most {
			x.part, x.at, x.e = part, at, api.ErrRange
		}
		return x
	}
	return []taskCase{set(least), set(most), set(least - 1), set(most + 1), set(math.MinInt), set(math.MaxInt)}
}

// P5.1
func TestCheckNumbers(t *testing.T) {
	runTasks(t, numberCases(0, 100000, 1, 0, func(t *api.TkTask) *int { t.Plots = nil; return &t.From }))
	runTasks(t, numberCases(1, fast, 1, 0, func(t *api.TkTask) *int { return &t.Speed }))
	runTasks(t, numberCases(1, fast, 1, 0, func(t *api.TkTask) *int { return &t.Accel }))
	for i := range 3 {
		runTasks(t, numberCases(-away, away, 2, i, func(t *api.TkTask) *int { return &t.Trackers[i].X }))
		runTasks(t, numberCases(-away, away, 2, i, func(t *api.TkTask) *int { return &t.Trackers[i].Y }))
		runTasks(t, numberCases(0, 10000000, 2, i, func(t *api.TkTask) *int { return &t.Trackers[i].Error }))
		runTasks(t, numberCases(0, 10000, 2, i, func(t *api.TkTask) *int { return &t.Trackers[i].Grow }))
		runTasks(t, numberCases(0, 600, 2, i, func(t *api.TkTask) *int { return &t.Trackers[i].Late }))
	}
	for i := range 4 {
		runTasks(t, numberCases(100, 100000, 3, i, func(t *api.TkTask) *int { return &t.Plots[i].Tick }))
		runTasks(t, numberCases(-far, far, 3, i, func(t *api.TkTask) *int { return &t.Plots[i].X }))
		runTasks(t, numberCases(-far, far, 3, i, func(t *api.TkTask) *int { return &t.Plots[i].Y }))
		runTasks(t, numberCases(-far, far, 3, i, func(t *api.TkTask) *int { return &t.Plots[i].Z }))
	}
	runTasks(t, numberCases(0, 100000, 3, 0, func(t *api.TkTask) *int { t.From, t.Plots = 0, t.Plots[:1]; return &t.Plots[0].Tick }))
}

// P5.1
func TestCheck(t *testing.T) {
	runTasks(t, []taskCase{
		{func(t *api.TkTask) {}, 0, 0, api.OK},
		{func(t *api.TkTask) { *t = api.TkTask{} }, 1, 0, api.ErrRange},
		{func(t *api.TkTask) { *t = api.TkTask{Speed: 1, Accel: 1} }, 0, 0, api.OK},
		{func(t *api.TkTask) {
			*t = api.TkTask{Speed: 1, Accel: 1, Trackers: []api.TkTracker{}, Plots: []api.TkPlot{}}
		}, 0, 0, api.OK},
		// Part 1.
		{func(t *api.TkTask) { t.Trackers = manyTrackers(5) }, 0, 0, api.OK},
		{func(t *api.TkTask) { t.Trackers = manyTrackers(6) }, 1, 0, api.ErrLong},
		{func(t *api.TkTask) { t.Trackers, t.From = make([]api.TkTracker, 6), -1 }, 1, 0, api.ErrLong},
		{func(t *api.TkTask) { t.Plots = manyPlots(60) }, 0, 0, api.OK},
		{func(t *api.TkTask) { t.Plots = manyPlots(61) }, 1, 0, api.ErrLong},
		{func(t *api.TkTask) { t.Plots, t.Speed = make([]api.TkPlot, 61), 0 }, 1, 0, api.ErrLong},
		{func(t *api.TkTask) { t.Accel, t.Trackers = 0, make([]api.TkTracker, 5) }, 1, 0, api.ErrRange},
		{func(t *api.TkTask) { t.Speed, t.Accel = 1, fast }, 0, 0, api.OK},
		// Part 2.
		{func(t *api.TkTask) { t.Trackers[1].Name = "" }, 2, 1, api.ErrForm},
		{func(t *api.TkTask) { t.Trackers[0].Name = "East" }, 2, 0, api.ErrForm},
		{func(t *api.TkTask) { t.Trackers[2].Name = strings.Repeat("a", 24) }, 0, 0, api.OK},
		{func(t *api.TkTask) { t.Trackers[2].Name = strings.Repeat("a", 25) }, 2, 2, api.ErrForm},
		{func(t *api.TkTask) { t.Trackers[1].Name = "east" }, 2, 1, api.ErrTwice},
		{func(t *api.TkTask) { t.Trackers[2].Name = "east" }, 2, 2, api.ErrTwice},
		{func(t *api.TkTask) { t.Trackers[2].Name = "west" }, 2, 2, api.ErrTwice},
		{func(t *api.TkTask) { t.Trackers[1].Name, t.Trackers[1].Error = "", -1 }, 2, 1, api.ErrForm},
		{func(t *api.TkTask) { t.Trackers[1].Name, t.Trackers[2].Name = "", "" }, 2, 1, api.ErrForm},
		{func(t *api.TkTask) { t.Trackers[1].Name, t.Trackers[1].Late = "east", 601 }, 2, 1, api.ErrTwice},
		{func(t *api.TkTask) { t.Trackers[0].Grow, t.Trackers[1].Name = 10001, "" }, 2, 0, api.ErrRange},
		{func(t *api.TkTask) { t.Trackers[2].X, t.Plots[0].Tracker = away+1, 3 }, 2, 2, api.ErrRange},
		// Part 3.
		{func(t *api.TkTask) { t.Plots[2].Tracker = 3 }, 3, 2, api.ErrNone},
		{func(t *api.TkTask) { t.Plots[2].Tracker = -1 }, 3, 2, api.ErrNone},
		{func(t *api.TkTask) { t.Plots[2].Tracker = math.MinInt }, 3, 2, api.ErrNone},
		{func(t *api.TkTask) { t.Plots[2].Tracker = math.MaxInt }, 3, 2, api.ErrNone},
		{func(t *api.TkTask) { t.Trackers = nil }, 3, 0, api.ErrNone},
		{func(t *api.TkTask) { t.Plots[1].Tracker, t.Plots[1].Tick = 3, -1 }, 3, 1, api.ErrNone},
		{func(t *api.TkTask) { t.From = 121 }, 3, 0, api.ErrRange},
		{func(t *api.TkTask) { t.From = 120 }, 0, 0, api.OK},
		{func(t *api.TkTask) { t.Plots[1].Y, t.Plots[2].Tracker = far+1, 3 }, 3, 1, api.ErrRange},
		{func(t *api.TkTask) { t.Plots[3].Tick = 120 }, 3, 3, api.ErrTwice},
		{func(t *api.TkTask) { t.Plots[1].Tracker = 0 }, 3, 1, api.ErrTwice},
		{func(t *api.TkTask) { t.Plots[3].Tick, t.Plots[3].Z = 120, -far-1 }, 3, 3, api.ErrRange},
		{func(t *api.TkTask) { t.Plots[2], t.Plots[3] = t.Plots[0], t.Plots[1] }, 3, 2, api.ErrTwice},
		{func(t *api.TkTask) { t.Plots[3].Tick = 119 }, 0, 0, api.OK}, // plots of a tracker come in any order
	})
}

// boxCase is a change of a box, and what CheckBox returns of it.
type boxCase struct {
	change func(b *api.TkBox)
	e      api.Errno
}

func runBoxes(t *testing.T, l []boxCase) {
	t.Helper()
	for i, x := range l {
		var b api.TkBox
		x.change(&b)
		if e := track.CheckBox(b); e != x.e {
			t.Errorf("%d: CheckBox of %v = %d", i, b, e)
		}
		if _, e := track.Ahead(slow(), b, 0); x.e != api.OK && e != x.e {
			t.Errorf("%d: Ahead of %v: %d", i, b, e)
		}
		if _, e := track.Ahead(slow(), b, -1); e != api.ErrRange {
			t.Errorf("%d: Ahead of %v by -1: %d", i, b, e)
		}
	}
}

// P5.6
func TestCheckBox(t *testing.T) {
	runBoxes(t, []boxCase{
		{func(b *api.TkBox) {}, api.OK},
		{func(b *api.TkBox) { b.At = 100000 }, api.OK},
		{func(b *api.TkBox) { b.At = 100001 }, api.ErrRange},
		{func(b *api.TkBox) { b.At = -1 }, api.ErrRange},
		{func(b *api.TkBox) { b.At = math.MinInt }, api.ErrRange},
		{func(b *api.TkBox) { b.At = math.MaxInt }, api.ErrRange},
	})
	for i := range 6 {
		set := func(s api.Span, e api.Errno) boxCase {
			return boxCase{func(b *api.TkBox) { *spansOf(b)[i] = s }, e}
		}
		most := far
		if i >= 3 {
			most = fast
		}
		runBoxes(t, []boxCase{
			set(span(-most, most), api.OK), set(span(most, most), api.OK), set(span(-most, -most), api.OK), set(span(-3, -3), api.OK),
			set(span(-most-1, 0), api.ErrRange), set(span(0, most+1), api.ErrRange), set(span(1, 0), api.ErrRange), set(span(-4, -5), api.ErrRange),
			set(span(most+1, most+1), api.ErrRange), set(span(-most-1, -most-1), api.ErrRange),
			set(span(math.MinInt, 0), api.ErrRange), set(span(0, math.MaxInt), api.ErrRange), set(span(math.MinInt, math.MinInt), api.ErrRange),
			set(span(math.MaxInt, math.MinInt), api.ErrRange), set(span(math.MinInt, math.MaxInt), api.ErrRange),
		})
	}
}
