package aim_test

import (
	"math"
	"slices"
	"testing"

	"hangfire/aim"
	"hangfire/api"
)

func told(now, setting, miss int, set bool) api.AmRound {
	return api.AmRound{Now: now, Setting: setting, Miss: miss, Set: set}
}

// The examples of the chapter.
func TestExamplesOfRounds(t *testing.T) {
	for _, want := range [][]api.AmRound{
		{told(0, -1, -1, false), told(1000, 2, 72, true), told(1600, 2, 72, false), told(2200, 2, 85, false)},
		{told(1951, -1, -1, false)},
		{told(1950, 2, 72, true)},
	} {
		var nows []int
		for _, round := range want {
			nows = append(nows, round.Now)
		}
		if l, e := aim.Rounds(example(), exampleWinds(), 2200, nows); !slices.Equal(l, want) || e != api.OK {
			t.Errorf("Rounds of %v = %v, %d", nows, l, e)
		}
	}
}

// turn is a tick, and the wind to the east from it on.
type turn struct{ tick, x int }

// turns returns soundings of a mast that leave one wind up to a height, from the tick of each turn on; before the first one, and from the tick end on, any wind.
func turns(end int, l ...turn) api.WnTask {
	w := api.WnTask{Cuts: []int{10}}
	for i, s := range l {
		until := end
		if i+1 < len(l) {
			until = l[i+1].tick
		}
		w.Sources = append(w.Sources, api.WnSource{Name: string(rune('a' + i)), Kind: api.WnTower, Life: until - s.tick - 1, High: 10})
		w.Soundings = append(w.Soundings, api.WnSounding{Source: i, Tick: s.tick, X: s.x})
	}
	return w
}

// ladder is a task whose setting i comes down i km east of the pad without wind, and 1 m farther for each mm per tick of the wind; Target is the pad, and Allowed 10 km around it. So with the wind x to the east alone the setting i has as its miss the square of 1000 i + x.
func ladder(settings int) api.AmTask {
	x := api.AmTask{
		Response: []api.AmBand{weight(0, 10, 1000000, 1000000)},
		Allowed:  area(span(-10000000, 10000000), span(-10000000, 10000000)),
	}
	for i := range settings {
		x.Settings = append(x.Settings, point(1000000*i, 0, 1000))
	}
	return x
}

// run compares the rounds of a task.
func run(t *testing.T, name string, x api.AmTask, w api.WnTask, launch int, want ...api.AmRound) {
	var nows []int
	for _, round := range want {
		nows = append(nows, round.Now)
	}
	if l, e := aim.Rounds(x, w, launch, nows); !slices.Equal(l, want) || e != api.OK {
		t.Errorf("%s: Rounds = %v, %d", name, l, e)
	}
}

// P3.6: it is set again if that is better by Gain, or more.
func TestGain(t *testing.T) {
	// By the second wind, -600, the settings have the misses 360000 and 160000.
	w := turns(900, turn{100, 0}, turn{200, -600})
	x := ladder(2)
	for _, c := range []struct {
		gain, setting, miss int
		set                 bool
	}{
		{0, 1, 160000, true},
		{199999, 1, 160000, true},
		{200000, 1, 160000, true},
		{200001, 0, 360000, false},
		{api.MaxAmGain, 0, 360000, false},
	} {
		x.Gain = c.gain
		run(t, "gain", x, w, 900, told(100, 0, 0, true), told(200, c.setting, c.miss, c.set))
	}
}

// P3.6: without a gain it is set again to the one it has, or to one before it that is as good.
func TestNoGain(t *testing.T) {
	x := ladder(2)
	w := turns(900, turn{100, 0}, turn{200, -1000}, turn{300, -500})
	run(t, "the same", x, w, 900,
		told(100, 0, 0, true), told(101, 0, 0, true), told(101, 0, 0, true),
		told(200, 1, 0, true), told(300, 0, 250000, true), told(301, 0, 250000, true))
	x.Gain = 1
	run(t, "gain 1", x, w, 900,
		told(100, 0, 0, true), told(101, 0, 0, false),
		told(200, 1, 0, true), told(300, 1, 250000, false))
}

// P3.6, P3.12: Turn and Freeze.
func TestInTime(t *testing.T) {
	w := turns(900, turn{100, 0}, turn{200, -1000}, turn{300, -20000})
	first, again, kept := told(100, 0, 0, true), told(200, 1, 0, true), told(200, 0, 1000000, false)
	never, still := told(100, -1, -1, false), told(200, -1, -1, false)
	for _, c := range []struct {
		turn, freeze int
		want         [2]api.AmRound
	}{
		{0, 0, [...]api.AmRound{first, again}},
		{300, 399, [...]api.AmRound{first, again}},
		{300, 400, [...]api.AmRound{first, again}},
		{700, 0, [...]api.AmRound{first, again}},
		{0, 700, [...]api.AmRound{first, again}},
		{300, 401, [...]api.AmRound{first, kept}},
		{701, 0, [...]api.AmRound{first, kept}},
		{0, 701, [...]api.AmRound{first, kept}},
		{400, 400, [...]api.AmRound{first, kept}},
		{400, 401, [...]api.AmRound{never, still}},
		{6000, 6000, [...]api.AmRound{never, still}},
	} {
		x := ladder(2)
		x.Turn, x.Freeze = c.turn, c.freeze
		run(t, "time", x, w, 900, c.want[:]...)
	}
	// When it is too late, it keeps its setting, or loses it.
	x := ladder(2)
	x.Turn = 750
	run(t, "late", x, w, 900, told(150, 0, 0, true), told(199, 0, 0, false), told(299, 0, 1000000, false), told(300, -1, -1, false), told(301, -1, -1, false))
}

// P3.6: a setting that is not allowed is none any more, and another one may be the best one at once.
func TestLost(t *testing.T) {
	w := turns(900, turn{100, 0}, turn{200, 10001}, turn{300, -10500}, turn{400, 0})
	x := ladder(2)
	x.Gain = api.MaxAmGain // what is lost needs no gain
	run(t, "lost", x, w, 900,
		told(100, 0, 0, true), told(200, -1, -1, false), told(201, -1, -1, false),
		told(300, 1, 90250000, true), told(400, 1, 1000000, false))
	// At once.
	w = turns(900, turn{100, 0}, turn{200, -10001})
	run(t, "at once", x, w, 900, told(100, 0, 0, true), told(200, 1, 9001*9001, true))
	// Just allowed.
	w = turns(900, turn{100, 0}, turn{200, -10000})
	run(t, "just allowed", x, w, 900, told(100, 0, 0, true), told(200, 0, 100000000, false))
}

// P3.6: without winds the setting stays, even if it is not known whether it is allowed.
func TestStays(t *testing.T) {
	// Two sources that contradict each other from 200 on: both are to blame.
	w := turns(300, turn{100, 0})
	w.Sources = append(w.Sources, api.WnSource{Name: "z", Kind: api.WnTower, Life: 99, High: 10})
	w.Soundings = append(w.Soundings, api.WnSounding{Source: 1, Tick: 200, X: 1})
	x := ladder(2)
	run(t, "contradiction", x, w, 900,
		told(199, 0, 0, true), told(200, 0, -1, false), told(299, 0, -1, false), told(300, -1, -1, false))
	run(t, "contradiction first", x, w, 900, told(200, -1, -1, false), told(200, -1, -1, false))
	// From 300 on there is any wind, so no setting is allowed, which loses it.
	run(t, "any wind", x, turns(300, turn{100, 0}), 900, told(100, 0, 0, true), told(299, 0, 0, true), told(300, -1, -1, false))
	// The bands do not reach up to the last weight.
	w = turns(900, turn{100, 0})
	x.Response[0].To = 11
	run(t, "too low", x, w, 900, told(100, -1, -1, false), told(200, -1, -1, false))
	w.Cuts[0] = 11
	run(t, "high enough", x, w, 900, told(100, 0, 0, true))
	w.Cuts[0] = 12
	run(t, "higher", x, w, 900, told(100, 0, 0, true))
}

// P3.6: the bands are those for the tick of the launch, by what is known at now.
func TestBandsOfLaunch(t *testing.T) {
	x := ladder(1)
	w := turns(60000, turn{100, 5})
	w.Sources[0].Late = 20
	w.Age = 7 // so the doubt is 7 for the ticks up to 700, and 14 for those up to 1300
	run(t, "launch 120", x, w, 120, told(119, -1, -1, false), told(120, 0, 12*12+7*7, true))
	run(t, "launch 700", x, w, 700, told(120, 0, 12*12+7*7, true), told(700, 0, 12*12+7*7, true))
	run(t, "launch 701", x, w, 701, told(120, 0, 19*19+14*14, true), told(701, 0, 19*19+14*14, true))
}

// P3.6: the errors, in order.
func TestRoundsErrors(t *testing.T) {
	bad := example()
	bad.Settings[0].Scale = -1
	wrong := exampleWinds()
	wrong.Sources[1].Name = "mast"
	ticks := func(n int) []int { return make([]int, n) }
	for i, c := range []struct {
		x      api.AmTask
		w      api.WnTask
		launch int
		nows   []int
		e      api.Errno
	}{
		{example(), exampleWinds(), 2200, nil, api.OK},
		{example(), exampleWinds(), 2200, []int{}, api.OK},
		{example(), exampleWinds(), 0, []int{0}, api.OK},
		{example(), exampleWinds(), 100000, []int{0, 0, 100000}, api.OK},
		{example(), exampleWinds(), 100000, ticks(40), api.OK},
		{bad, wrong, -1, ticks(41), api.ErrRange},
		{example(), wrong, -1, ticks(41), api.ErrTwice},
		{example(), exampleWinds(), -1, ticks(41), api.ErrRange},
		{example(), exampleWinds(), -1, nil, api.ErrRange},
		{example(), exampleWinds(), 100001, nil, api.ErrRange},
		{example(), exampleWinds(), math.MinInt, nil, api.ErrRange},
		{example(), exampleWinds(), math.MaxInt, nil, api.ErrRange},
		{example(), exampleWinds(), 2200, ticks(41), api.ErrLong},
		{example(), exampleWinds(), 2200, append(ticks(40), -1), api.ErrLong},
		{example(), exampleWinds(), 2200, []int{-1}, api.ErrRange},
		{example(), exampleWinds(), 2200, []int{2200}, api.OK},
		{example(), exampleWinds(), 2200, []int{2201}, api.ErrRange},
		{example(), exampleWinds(), 100000, []int{100001}, api.ErrRange},
		{example(), exampleWinds(), 2200, []int{math.MinInt}, api.ErrRange},
		{example(), exampleWinds(), 2200, []int{0, math.MaxInt}, api.ErrRange},
		{example(), exampleWinds(), 2200, []int{5, 5, 6}, api.OK},
		{example(), exampleWinds(), 2200, []int{5, 4}, api.ErrArg},
		{example(), exampleWinds(), 2200, []int{5, 6, 5}, api.ErrArg},
		// A tick that is none comes first, wherever it is.
		{example(), exampleWinds(), 2200, []int{5, 4, -1}, api.ErrRange},
		{example(), exampleWinds(), 2200, []int{5, 4, 6, 2201}, api.ErrRange},
	} {
		l, e := aim.Rounds(c.x, c.w, c.launch, c.nows)
		if e != c.e || e == api.OK && len(l) != len(c.nows) || e != api.OK && len(l) > 0 {
			t.Errorf("%d: Rounds = %v, %d", i, l, e)
		}
	}
}
