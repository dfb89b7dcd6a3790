package officer_test

import (
	"math"
	"slices"
	"strings"
	"testing"

	"hangfire/api"
	"hangfire/officer"
)

// fault is a change of the grand setup, and what Check returns then.
type fault struct {
	change   func(s *api.OfSetup)
	part, at int
	e        api.Errno
}

// testFaults checks what all functions return for setups with a change. (Lines, ticks and records would have errors, too.)
func testFaults(t *testing.T, faults ...fault) {
	t.Helper()
	tooMany := make([]string, api.MaxOfLines+1)
	for i, f := range faults {
		s := changed(grand(), f.change)
		if part, at, e := officer.Check(s); part != f.part || at != f.at || e != f.e {
			t.Errorf("%d: Check = %d, %d, %d, and not %d, %d, %d", i, part, at, e, f.part, f.at, f.e)
		}
		if f.e == api.OK {
			playOf(t, s, launched())
			continue
		}
		answers, after, e1 := officer.Play(s, tooMany)
		impacts, e2 := officer.Impacts(s, tooMany, -1)
		why, e3 := officer.Clear(s, tooMany, -1)
		record, e4 := officer.Record(s, append(tooMany, "\n"))
		at, e5 := officer.Replay(s, "x")
		for _, e := range []api.Errno{e1, e2, e3, e4, e5} {
			if e != f.e {
				t.Errorf("%d: an error %d, and not %d", i, e, f.e)
			}
		}
		if !isZero(answers) || !isZero(after) || !isZero(impacts) || why != 0 || record != "" || at != 0 {
			t.Errorf("%d: %q, %+v, %v, %d, %q, %d", i, answers, after, impacts, why, record, at)
		}
	}
}

// P12.1: setups without an error.
func TestCheckOK(t *testing.T) {
	ok := func(change func(s *api.OfSetup)) fault { return fault{change: change} }
	testFaults(t,
		ok(func(s *api.OfSetup) {}),
		ok(func(s *api.OfSetup) { s.Crafts = nil }),
		ok(func(s *api.OfSetup) { s.Crafts = alike(12) }),
		ok(func(s *api.OfSetup) { s.Margin, s.Slack = 0, 0 }),
		ok(func(s *api.OfSetup) { s.Margin, s.Slack = 2000000000, 100000 }),
		ok(func(s *api.OfSetup) { s.Limit = api.HzRisk{Num: 0, Den: 1} }),
		ok(func(s *api.OfSetup) { s.Limit = api.HzRisk{Num: 1000000000000000000, Den: 1000000000000000000} }),
		ok(func(s *api.OfSetup) { s.Laws = []api.HzLaw{{Lethal: 0, Cap: 1}, {Lethal: 10000, Cap: 1000000}} }),
		ok(func(s *api.OfSetup) { s.Track.Plots = []api.TkPlot{} }),
		ok(func(s *api.OfSetup) { s.Track.Trackers = nil }),
		ok(func(s *api.OfSetup) { s.Vehicle.Pieces, s.Laws = nil, s.Laws[:1] }),
	)
	if part, at, e := officer.Check(example()); part != 0 || at != 0 || e != api.OK {
		t.Errorf("Check = %d, %d, %d", part, at, e)
	}
}

// alike returns crafts that have nothing but their names that is not the same.
func alike(n int) (l []api.HzCraft) {
	for i := range n {
		l = append(l, api.HzCraft{Name: "c" + strings.Repeat("x", i), Sights: []api.HzSight{{Place: api.Place{X: 2000000000}}}})
	}
	return l
}

// P12.1: each part, with its errors in their order.
func TestCheckParts(t *testing.T) {
	testFaults(t,
		fault{func(s *api.OfSetup) { s.Wind.Cuts = nil }, 1, 0, api.ErrLong},
		fault{func(s *api.OfSetup) { s.Wind.Sources[1].Name = "mast" }, 1, 0, api.ErrTwice},
		fault{func(s *api.OfSetup) { s.Wind.Soundings = []api.WnSounding{{}, {Source: 2}} }, 1, 0, api.ErrNone},

		fault{func(s *api.OfSetup) { s.Aim.Settings = nil }, 2, 0, api.ErrLong},
		fault{func(s *api.OfSetup) { s.Aim.Settings[2].Scale = -1 }, 2, 0, api.ErrRange},
		fault{func(s *api.OfSetup) { s.Aim.Response[1].From = 1 }, 2, 0, api.ErrArg},

		fault{func(s *api.OfSetup) { s.Dirs = s.Dirs[:2]; s.Dirs[0].Z = 0 }, 3, 0, api.ErrArg},
		fault{func(s *api.OfSetup) { s.Dirs = append(s.Dirs, api.FlDir{Z: 10000}) }, 3, 0, api.ErrArg},
		fault{func(s *api.OfSetup) { s.Dirs = nil }, 3, 0, api.ErrArg},
		fault{func(s *api.OfSetup) { s.Dirs[2].Z = 0 }, 3, 2, api.ErrRange},
		fault{func(s *api.OfSetup) { s.Dirs[2].Z, s.Dirs[1].X = 0, 1000000 }, 3, 1, api.ErrRange},
		fault{func(s *api.OfSetup) { s.Dirs[1].X = 0 }, 3, 1, api.ErrArg},

		fault{func(s *api.OfSetup) { s.Vehicle.Name = "Dart" }, 4, 0, api.ErrForm},
		fault{func(s *api.OfSetup) { s.Vehicle.Phases = append(s.Vehicle.Phases, api.FlPhase{}) }, 4, 0, api.ErrRange},
		fault{func(s *api.OfSetup) { s.Vehicle.Pieces = append(s.Vehicle.Pieces, s.Vehicle.Pieces[0]) }, 4, 0, api.ErrTwice},

		fault{func(s *api.OfSetup) { s.Map.People[99], s.Laws = -1, nil }, 5, 0, api.ErrRange},
		fault{func(s *api.OfSetup) { s.Map.People = nil }, 5, 0, api.ErrArg},
		fault{func(s *api.OfSetup) { s.Laws = s.Laws[:1]; s.Laws[0].Cap = 0 }, 5, 0, api.ErrArg},
		fault{func(s *api.OfSetup) { s.Laws = append(s.Laws, s.Laws[0]) }, 5, 0, api.ErrArg},
		fault{func(s *api.OfSetup) { s.Vehicle.Pieces = nil }, 5, 0, api.ErrArg},
		fault{func(s *api.OfSetup) { s.Laws[1].Cap = 0; s.Limit.Den = 0 }, 5, 1, api.ErrArg},
		fault{func(s *api.OfSetup) { s.Laws[1].Cap = 1000001 }, 5, 1, api.ErrArg},
		fault{func(s *api.OfSetup) { s.Laws[1].Lethal = -1 }, 5, 1, api.ErrArg},
		fault{func(s *api.OfSetup) { s.Laws[1].Lethal = 10001 }, 5, 1, api.ErrArg},
		fault{func(s *api.OfSetup) { s.Laws[0].Lethal, s.Laws[1].Cap = 10001, 0 }, 5, 0, api.ErrArg},
		fault{func(s *api.OfSetup) { s.Limit.Num = -1 }, 5, 0, api.ErrArg},
		fault{func(s *api.OfSetup) { s.Limit.Den = 0 }, 5, 0, api.ErrArg},
		fault{func(s *api.OfSetup) { s.Limit.Num = 1000000000000000001 }, 5, 0, api.ErrArg},
		fault{func(s *api.OfSetup) { s.Limit.Den = 1000000000000000001 }, 5, 0, api.ErrArg},

		fault{func(s *api.OfSetup) { s.Crafts = alike(13); s.Crafts[0].Name = "" }, 6, 0, api.ErrLong},
		fault{func(s *api.OfSetup) { s.Crafts[1].Name = "Kite" }, 6, 1, api.ErrForm},
		fault{func(s *api.OfSetup) { s.Crafts[1].Name = "ferry" }, 6, 1, api.ErrTwice},
		fault{func(s *api.OfSetup) { s.Crafts[1].Name, s.Crafts[1].Sights = "ferry", nil }, 6, 1, api.ErrLong},
		fault{func(s *api.OfSetup) { s.Crafts[0].Climb = -1 }, 6, 0, api.ErrRange},
		fault{func(s *api.OfSetup) { s.Crafts = alike(4); s.Crafts[3] = s.Crafts[1]; s.Crafts[2].Low = 1 }, 6, 2, api.ErrRange},
		fault{func(s *api.OfSetup) { s.Crafts = alike(4); s.Crafts[3] = s.Crafts[1] }, 6, 3, api.ErrTwice},

		fault{func(s *api.OfSetup) { s.Count.Steps[2].Need = []int{2} }, 7, 0, api.ErrNone},
		fault{func(s *api.OfSetup) { s.Count.Pad.Wait = -1 }, 7, 0, api.ErrRange},
		fault{func(s *api.OfSetup) { s.Count.Stations[1] = "range" }, 7, 0, api.ErrTwice},

		fault{func(s *api.OfSetup) { s.Track.Trackers[2].Name = "" }, 8, 0, api.ErrForm},
		fault{func(s *api.OfSetup) { s.Track.Plots = []api.TkPlot{{Tick: 10}} }, 8, 0, api.ErrArg},
		fault{func(s *api.OfSetup) { s.Track.Plots = []api.TkPlot{{Tick: 10}, {Tick: 6}} }, 8, 0, api.ErrRange},
		fault{func(s *api.OfSetup) { s.Track.Speed = 0 }, 8, 0, api.ErrRange},

		fault{func(s *api.OfSetup) { s.Destruct.Lines = nil }, 9, 0, api.ErrLong},
		fault{func(s *api.OfSetup) { s.Destruct.Lines[1].Line = 0 }, 9, 0, api.ErrArg},
		fault{func(s *api.OfSetup) { s.Destruct.Wait = 101 }, 9, 0, api.ErrRange},

		fault{func(s *api.OfSetup) { s.Margin = -1 }, 10, 0, api.ErrRange},
		fault{func(s *api.OfSetup) { s.Margin = 2000000001 }, 10, 0, api.ErrRange},
		fault{func(s *api.OfSetup) { s.Slack = -1 }, 10, 0, api.ErrRange},
		fault{func(s *api.OfSetup) { s.Slack = 100001 }, 10, 0, api.ErrRange},
		fault{func(s *api.OfSetup) { s.Slack = math.MinInt }, 10, 0, api.ErrRange},
	)
}

// P12.1: all of one part comes before the next one.
func TestCheckOrder(t *testing.T) {
	breaks := []func(s *api.OfSetup){
		1:  func(s *api.OfSetup) { s.Wind.Age = -1 },
		2:  func(s *api.OfSetup) { s.Aim.Gain = -1 },
		3:  func(s *api.OfSetup) { s.Dirs[1].Z = -1 },
		4:  func(s *api.OfSetup) { s.Vehicle.Gravity.Lo = -1 },
		5:  func(s *api.OfSetup) { s.Map.Size = 0 },
		6:  func(s *api.OfSetup) { s.Crafts[1].Speed = -1 },
		7:  func(s *api.OfSetup) { s.Count.Window.Lo = -1 },
		8:  func(s *api.OfSetup) { s.Track.From = -1 },
		9:  func(s *api.OfSetup) { s.Destruct.Blind = -1 },
		10: func(s *api.OfSetup) { s.Margin = -1 },
	}
	for part := 1; part < len(breaks); part++ {
		at := 0
		if slices.Contains([]int{3, 6}, part) {
			at = 1
		}
		testFaults(t, fault{func(s *api.OfSetup) {
			for _, change := range breaks[part:] {
				change(s)
			}
		}, part, at, api.ErrRange})
	}
	if part, at, e := officer.Check(api.OfSetup{}); part != 1 || at != 0 || e != api.ErrLong {
		t.Errorf("Check = %d, %d, %d", part, at, e)
	}
}
