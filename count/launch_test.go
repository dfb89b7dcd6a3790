package count_test

import (
	"math"
	"slices"
	"testing"

	"hangfire/api"
	"hangfire/count"
)

// P8.3
func TestReady(t *testing.T) {
	p, log := example(), logL()
	for i, x := range []struct {
		log  []api.CtEvent
		tick int
		want []int
		e    api.Errno
	}{
		{nil, 0, []int{fill}, api.OK}, // the example of the chapter
		{nil, 100000, []int{fill}, api.OK}, {nil, -1, nil, api.ErrRange}, {nil, 100001, nil, api.ErrRange}, {nil, math.MinInt, nil, api.ErrRange}, {nil, math.MaxInt, nil, api.ErrRange},
		{log[:1], 50, nil, api.OK}, {log[:1], 0, nil, api.OK},
		{log[:3], 99, nil, api.ErrRange}, {log[:3], 100, []int{power}, api.OK},
		{log[:5], 100, []int{check}, api.OK}, {log[:5], 599, []int{check}, api.OK}, {log[:5], 600, nil, api.OK}, // main is empty
		{log[:9], 170, nil, api.OK}, {log[:11], 180, nil, api.ErrRange}, {log[:11], 181, []int{poll}, api.OK},
		{and(log[:11], hold(182)), 182, nil, api.OK}, {and(log[:11], hold(182)), 181, nil, api.ErrRange},
		{log[:13], 190, []int{launch}, api.OK}, {log, 200, nil, api.OK}, {log, 199, nil, api.ErrRange}, {log, 100000, nil, api.OK},
	} {
		if l, e := count.Ready(p, x.log, x.tick); !slices.Equal(l, x.want) || e != x.e {
			t.Errorf("%d: Ready at %d = %v, %d", i, x.tick, l, e)
		}
	}
	if l, e := count.Ready(changed(fillUp(0, 0, 16)), nil, 7); len(l) != 16 || !slices.IsSorted(l) || e != api.OK {
		t.Errorf("Ready = %v, %d", l, e)
	}
	// A log of as many events as there may be is no reason.
	if l, e := count.Ready(p, slices.Repeat([]api.CtEvent{event(0, api.CtResume, 0)}, 100), 0); !slices.Equal(l, []int{fill}) || e != api.OK {
		t.Errorf("Ready = %v, %d", l, e)
	}
}

// earliestCase is a tick after a log, and what Earliest returns for it.
type earliestCase struct {
	log      []api.CtEvent
	tick, at int
	e        api.Errno
}

func runEarliest(t *testing.T, p api.CtPlan, l []earliestCase) {
	t.Helper()
	for i, x := range l {
		if at, e := count.Earliest(p, x.log, x.tick); at != x.at || e != x.e {
			t.Errorf("%d: Earliest at %d = %d, %d, and not %d, %d", i, x.tick, at, e, x.at, x.e)
		}
	}
}

// late checks what Late returns.
func late(t *testing.T, p api.CtPlan, log []api.CtEvent, want int, wantE api.Errno) {
	t.Helper()
	if at, e := count.Late(p, log); at != want || e != wantE {
		t.Errorf("Late after %v = %d, %d, and not %d, %d", log, at, e, want, wantE)
	}
}

// P8.4: the examples of the chapter, and ticks that are none.
func TestEarliest(t *testing.T) {
	p, log := example(), logL()
	recycled := and(log[:13], event(191, api.CtNoGo, safety), event(195, api.CtRecycle, 0))
	runEarliest(t, p, []earliestCase{
		{nil, 0, 200, api.OK}, {nil, 45, 200, api.OK}, {nil, 46, 201, api.OK}, {nil, 240, 395, api.OK}, {nil, 241, 396, api.OK}, {nil, 245, 400, api.OK}, {nil, 246, 0, api.ErrDown},
		{nil, 100000, 0, api.ErrDown}, {nil, -1, 0, api.ErrRange}, {nil, 100001, 0, api.ErrRange}, {nil, math.MaxInt, 0, api.ErrRange}, {nil, math.MinInt, 0, api.ErrRange},
		{log[:5], 120, 200, api.OK}, {log[:5], 99, 0, api.ErrRange},
		{recycled, 195, 250, api.OK}, {recycled, 194, 0, api.ErrRange}, {recycled, 196, 251, api.OK},
		{log, 200, 0, api.ErrDown}, {log, 199, 0, api.ErrDown}, {log, -1, 0, api.ErrDown}, {log, math.MaxInt, 0, api.ErrDown},
	})
	late(t, p, nil, 245, api.OK)
	late(t, p, recycled, 345, api.OK)
	late(t, p, log, 0, api.ErrDown)
	late(t, p, log[:15], 250, api.OK)
}

// P8.4: steps that run have to end in time.
func TestEarliestRunning(t *testing.T) {
	p := example()
	fills := []api.CtEvent{begin(20, fill)}
	runEarliest(t, p, []earliestCase{
		{fills, 20, 200, api.OK}, {fills, 119, 200, api.OK}, {fills, 145, 200, api.OK}, {fills, 146, 201, api.OK},
		{fills, 220, 275, api.OK}, {fills, 221, 0, api.ErrDown}, // fill has to end at 220
	})
	late(t, p, fills, 220, api.OK)
	// What a step that the launch needs needs counts, too; what the launch does not need does not.
	p.Steps[launch].Need = []int{power}
	both := []api.CtEvent{begin(20, fill), end(120, fill), begin(120, power), begin(120, check)}
	late(t, p, fills, 220, api.OK)
	late(t, p, both, 395, api.OK) // power may end at 620, check at 420
	p.Steps[check].Most = 60
	late(t, p, both, 395, api.OK)
	p.Steps[power].Most = 60
	late(t, p, both, 180, api.OK)
	runEarliest(t, p, []earliestCase{{both, 180, 200, api.OK}, {both, 181, 0, api.ErrDown}})
	// It is too late from the beginning on.
	late(t, p, []api.CtEvent{hold(396)}, -1, api.OK)
	late(t, p, []api.CtEvent{begin(20, fill), hold(221)}, -1, api.OK)
	late(t, p, []api.CtEvent{begin(20, fill), hold(220)}, 220, api.OK)
	late(t, p, []api.CtEvent{hold(100000)}, -1, api.OK)
	// Holds, polls and batteries do not matter.
	late(t, p, []api.CtEvent{begin(20, fill), hold(21)}, 220, api.OK)
}

// P8.4: the launch itself runs until the earliest launch.
func TestEarliestLaunch(t *testing.T) {
	p := short()
	p.Window = span(70, 400)
	runs := func(at int) []api.CtEvent { return []api.CtEvent{begin(at, 0)} }
	runEarliest(t, p, []earliestCase{
		{nil, 0, 70, api.OK}, {nil, 395, 400, api.OK}, {nil, 396, 0, api.ErrDown},
		{runs(9), 9, 0, api.ErrDown}, {runs(9), 69, 0, api.ErrDown}, // it has to end at 69, before the window
		{runs(10), 10, 70, api.OK}, {runs(10), 70, 70, api.OK}, {runs(10), 71, 0, api.ErrDown},
		{runs(100), 100, 105, api.OK}, {runs(100), 106, 106, api.OK}, {runs(100), 160, 160, api.OK}, {runs(100), 161, 0, api.ErrDown},
		{runs(390), 390, 395, api.OK}, {runs(390), 400, 400, api.OK}, {runs(390), 401, 0, api.ErrDown}, {runs(396), 396, 0, api.ErrDown},
	})
	late(t, p, runs(9), -1, api.OK)
	late(t, p, runs(10), 70, api.OK)
	late(t, p, runs(100), 160, api.OK)
	late(t, p, runs(390), 400, api.OK)
	late(t, p, runs(396), -1, api.OK)
	late(t, p, nil, 395, api.OK)
	// The window may be as long as there are ticks.
	p.Window = span(0, 100000)
	late(t, p, nil, 99995, api.OK)
	p.Steps[0].Least = 0
	late(t, p, nil, 100000, api.OK)
	runEarliest(t, p, []earliestCase{{nil, 100000, 100000, api.OK}, {[]api.CtEvent{hold(100000)}, 100000, 100000, api.OK}})
	late(t, p, []api.CtEvent{hold(100000)}, 100000, api.OK)
	p.Window = span(0, 0)
	late(t, p, nil, 0, api.OK)
}

// P8.5
func TestLasts(t *testing.T) {
	p := short()
	p.Batteries = []api.CtBattery{{Name: "a", Charge: 10, Rate: 3}, {Name: "b", Charge: 12, Rate: 3}, {Name: "c", Charge: 1, Rate: 1000}, {Name: "d", Charge: 1000000, Rate: 1}, {Name: "e", Charge: 13, Rate: 3}}
	p.Steps[0].On = []int{0, 1, 2, 3}
	for i, x := range []struct {
		log  []api.CtEvent
		want []int
	}{
		{nil, []int{-1, -1, -1, -1, -1}},
		{[]api.CtEvent{begin(7, 0)}, []int{11, 11, 8, 1000007, -1}},
		{[]api.CtEvent{begin(7, 0), hold(10)}, []int{11, 11, 10, 1000007, -1}}, // c was empty at 8, and is so from now on
		{[]api.CtEvent{begin(7, 0), hold(11)}, []int{11, 11, 11, 1000007, -1}},
		{[]api.CtEvent{begin(100000, 0)}, []int{100004, 100004, 100001, 1100000, -1}},
		{[]api.CtEvent{begin(7, 0), end(12, 0)}, []int{12, 12, 12, 1000007, -1}}, // after the launch
		{[]api.CtEvent{begin(7, 0), event(9, api.CtRecycle, 0)}, []int{-1, -1, -1, -1, -1}},
	} {
		if l, e := count.Lasts(p, x.log); !slices.Equal(l, x.want) || e != api.OK {
			t.Errorf("%d: Lasts = %v, %d", i, l, e)
		}
	}
	if l, e := count.Lasts(short(), nil); len(l) > 0 || e != api.OK {
		t.Errorf("Lasts = %v, %d", l, e)
	}
}

// steps returns a plan of steps, each of them with a length, and with steps that it needs.
func steps(lengths []int, need ...[]int) api.CtPlan {
	p := short()
	p.Steps, p.Points = nil, nil
	for i, n := range lengths {
		p.Steps = append(p.Steps, api.CtStep{Name: name("s", i), Least: n, Most: n, Need: need[i]})
	}
	return p
}

// P8.6
func TestPath(t *testing.T) {
	for i, x := range []struct {
		p    api.CtPlan
		want []int
	}{
		{example(), []int{fill, check, poll, launch}}, // the example of the chapter
		{short(), []int{0}},
		{steps([]int{5, 5, 5}, nil, nil, nil), []int{2}}, // the launch needs nothing
		{steps([]int{5, 5, 5}, nil, nil, []int{0, 1}), []int{0, 2}},
		{steps([]int{5, 6, 5}, nil, nil, []int{0, 1}), []int{1, 2}},
		{steps([]int{20000, 20000, 20000}, nil, []int{0}, []int{1}), []int{0, 1, 2}},
		// Several are as long: the numbers at the end decide.
		{steps([]int{3, 4, 4, 3, 1}, nil, nil, []int{0}, []int{1}, []int{2, 3}), []int{0, 2, 4}},
		{steps([]int{9, 9, 2, 2, 1}, nil, nil, []int{1}, []int{0}, []int{2, 3}), []int{1, 2, 4}},
		{steps([]int{0, 0, 0, 0}, nil, []int{0}, []int{0, 1}, []int{0, 1, 2}), []int{0, 3}},
		{steps([]int{0, 0, 0, 0}, nil, nil, []int{1}, []int{2}), []int{1, 2, 3}},
		{steps([]int{0, 5, 0, 0}, nil, nil, []int{0, 1}, []int{0, 2}), []int{1, 2, 3}},
		// A step that takes no time is on the path, where one is needed.
		{steps([]int{0, 7}, nil, []int{0}), []int{0, 1}},
	} {
		if l, e := count.Path(x.p); !slices.Equal(l, x.want) || e != api.OK {
			t.Errorf("%d: Path = %v, %d, and not %v", i, l, e, x.want)
		}
	}
}
