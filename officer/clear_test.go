package officer_test

import (
	"math"
	"slices"
	"testing"

	"hangfire/api"
	"hangfire/flight"
	"hangfire/officer"
	"hangfire/wind"
)

// clearAt returns what Clear does, without an error.
func clearAt(t *testing.T, s api.OfSetup, lines []string, tick int) int {
	t.Helper()
	why, e := officer.Clear(s, lines, tick)
	if e != api.OK {
		t.Fatalf("Clear at %d after %q = %d", tick, lines, e)
	}
	return why
}

// why is a change of the grand range, a tick, and why it is not clear then, after the lines that are ready for a launch.
type why struct {
	change func(s *api.OfSetup)
	tick   int
	want   int
}

// testWhy checks what Clear returns, and what the desk answers to a line clear, and to the end of the last step.
func testWhy(t *testing.T, lines []string, l ...why) {
	t.Helper()
	for i, c := range l {
		s := changed(grand(), c.change)
		if got := clearAt(t, s, lines, c.tick); got != c.want {
			t.Errorf("%d: %d, and not %d", i, got, c.want)
		}
		answer := sentence("unsafe", c.want)
		if c.want == 0 {
			answer = "clear"
		}
		clear, end := sentence("at", c.tick, "clear"), sentence("at", c.tick, "end launch")
		answers, after := playOf(t, s, append(slices.Clone(lines), clear, end))
		if n := len(lines); answers[n] != answer || c.want != 0 && (answers[n+1] != answer || after.Launched != none) {
			t.Errorf("%d: %q", i, answers[n:])
		}
	}
}

func asIs(*api.OfSetup) {}

// P12.4, P12.3: the first three reasons.
func TestNoSettingWindAim(t *testing.T) {
	testWhy(t, nil, why{asIs, 0, api.OfNoSetting}, why{asIs, 100000, api.OfNoSetting})
	testWhy(t, ready()[:6], why{asIs, 10, api.OfNoSetting})
	testWhy(t, readyIn(450, 900), why{asIs, 55, api.OfNoWind}) // no setting would come first: it was set at the tick 2
	testWhy(t, readyIn(450, 900)[:8], why{asIs, 19, api.OfNoNotice}, why{asIs, 20, api.OfNoWind})
	// The winds become less known, until nothing of them is.
	testWhy(t, ready(), why{calm, 55, 0}, why{calm, 600, 0}, why{calm, 601, 0}, why{calm, 660, 0}, why{calm, 1201, api.OfNoAim}, why{asIs, 1201, api.OfNoAim}, why{asIs, 100000, api.OfNoAim})
	short := func(s *api.OfSetup) { s.Wind.Sources[0].Life, s.Wind.Sources[1].Late = 60, 6000 }
	testWhy(t, ready(), why{short, 60, 0}, why{short, 61, api.OfNoAim})
	// The bands do not reach up to the last weight.
	high := func(s *api.OfSetup) { s.Wind.Cuts[1] = 499999 }
	testWhy(t, ready()[:6], why{high, 10, api.OfNoSetting})
	// Other settings are allowed, but not this one any more.
	turned := append(windAt(0, -1600), append([]string{"at 2 aim"}, windAt(610, 700)...)...)
	testWhy(t, turned[:4], why{calm, 10, api.OfNoNotice})
	testWhy(t, turned, why{calm, 610, api.OfNoAim})
	follow(t, changed(grand(), calm), append(linesOf(turned[:3]), "at 2 aim > ok 2")...)
	follow(t, changed(grand(), calm), append(turned, "at 610 clear > unsafe 3", "at 610 aim > ok 0", "at 610 clear > unsafe 7")...)
}

// calm is a change of the grand range: there are no crafts.
func calm(s *api.OfSetup) { s.Crafts = nil }

// windAt are soundings of the mast of one and the same wind to the east.
func windAt(tick, wind int) (lines []string) {
	for _, height := range []int{5000, 200000, 300000} {
		lines = append(lines, sentence("at", tick, "sound mast", height, wind, 0))
	}
	return lines
}

// P12.4, P12.3: OfNoImpact
func TestNoImpact(t *testing.T) {
	testWhy(t, ready()[:8],
		why{func(s *api.OfSetup) { s.Vehicle.Air, s.Vehicle.Gravity.Lo = nil, 0 }, 55, api.OfNoImpact},
		why{func(s *api.OfSetup) { s.Vehicle.Pieces[0].Drag = span(500, 1000) }, 55, api.OfNoImpact},
		why{func(s *api.OfSetup) { s.Vehicle.Pieces[0].Drag = span(500, 1000); s.Limit.Num = 0 }, 55, api.OfNoImpact},
		why{func(s *api.OfSetup) { s.Vehicle.Pieces[0].Drag = span(500, 1000); s.Aim.Allowed = area(0, 0, 0, 0) }, 55, api.OfNoSetting},
	)
}

// P12.4, P12.3: OfRisk
func TestRisk(t *testing.T) {
	// The greatest expectation is 100 people times 10 m2, and half of them times 20 m2, of 10^6 m2: 2 of 1000.
	testWhy(t, ready(),
		why{func(s *api.OfSetup) { s.Limit = api.HzRisk{Num: 1, Den: 500} }, 55, 0},
		why{func(s *api.OfSetup) { s.Limit = api.HzRisk{Num: 1000000000000000000, Den: 1} }, 55, 0},
		why{func(s *api.OfSetup) { s.Limit = api.HzRisk{Num: 199999, Den: 100000000} }, 55, api.OfRisk},
		why{func(s *api.OfSetup) { s.Limit = api.HzRisk{Num: 0, Den: 1} }, 55, api.OfRisk},
		why{func(s *api.OfSetup) { s.Map.People[55] = 101 }, 55, api.OfRisk},
		why{func(s *api.OfSetup) { s.Map.People[55] = 99 }, 55, 0},
		// The first law is that of the piece.
		why{func(s *api.OfSetup) { s.Laws[0].Lethal = 11 }, 55, api.OfRisk},
		why{func(s *api.OfSetup) { s.Laws[1].Lethal = 21 }, 55, api.OfRisk},
		why{func(s *api.OfSetup) { s.Laws[0], s.Laws[1] = s.Laws[1], s.Laws[0] }, 55, 0},
		// There is no spread where the law wants more cells than there are.
		why{func(s *api.OfSetup) { s.Laws[1].Cap = 250000 }, 55, 0},
		why{func(s *api.OfSetup) { s.Laws[1].Cap = 249999 }, 55, api.OfRisk},
	)
	// Without the notices the risk comes first, and without a setting that.
	testWhy(t, ready()[:8], why{func(s *api.OfSetup) { s.Limit.Num = 0 }, 55, api.OfRisk}, why{asIs, 55, api.OfNoNotice})
}

// P12.4, P12.3: OfCraft
func TestCraft(t *testing.T) {
	// A ship that may be just so far away when the piece comes down, from the tick 193 of the flight on.
	impacts, _ := officer.Impacts(grand(), ready(), 55)
	piece, whole := impacts[0], impacts[1]
	if piece.At != span(193, 202) || whole.At != span(386, 396) {
		t.Fatalf("%v", impacts)
	}
	ship := func(x, speed, tick int) func(s *api.OfSetup) {
		return func(s *api.OfSetup) {
			sight := api.HzSight{Tick: tick, Place: api.Place{X: x}}
			s.Crafts = []api.HzCraft{{Name: "far", Sights: []api.HzSight{{Place: api.Place{Y: 100000000}}}}, {Name: "ship", Speed: speed, Sights: []api.HzSight{sight}}}
		}
	}
	at := 60 + whole.At.Hi
	testWhy(t, ready(),
		why{func(s *api.OfSetup) { s.Crafts = nil }, 60, 0},
		why{ship(whole.Area.X.Hi+1, 0, 0), 60, 0},
		why{ship(whole.Area.X.Hi, 0, 0), 60, api.OfCraft},
		why{ship(whole.Area.X.Lo-1, 0, 0), 60, 0},
		why{ship(whole.Area.X.Lo, 0, 0), 60, api.OfCraft},
		// It comes as near as this at the last tick at which the vehicle comes down, of a launch at the tick.
		why{ship(whole.Area.X.Hi+7*at, 7, 0), 60, api.OfCraft},
		why{ship(whole.Area.X.Hi+7*at+1, 7, 0), 60, 0},
		why{ship(whole.Area.X.Hi+7*at+1, 7, 0), 61, api.OfCraft},
		// It does not move, and is seen at the last tick.
		why{ship(whole.Area.X.Hi, 0, 100000), 60, api.OfCraft},
	)
	// The piece falls behind the vehicle, and at another place: a ship may be there.
	away := func(x int) func(s *api.OfSetup) {
		return func(s *api.OfSetup) {
			ship(x, 0, 0)(s)
			s.Vehicle.Air = nil
			s.Vehicle.Pieces[0].Kick = api.FlTilt{X: span(1000, 1000), Z: span(20000, 20000)}
		}
	}
	falls, _ := officer.Impacts(changed(grand(), away(0)), ready(), 55)
	if len(falls) != 2 || falls[0].Area.X.Lo <= falls[1].Area.X.Hi || falls[0].At.Lo <= falls[1].At.Hi {
		t.Fatalf("%v", falls)
	}
	east := falls[0].Area.X
	safe := func(f func(s *api.OfSetup)) func(s *api.OfSetup) {
		return func(s *api.OfSetup) { f(s); s.Limit.Num = 1000000 }
	}
	testWhy(t, ready()[:8],
		why{safe(away(east.Hi)), 60, api.OfCraft}, why{safe(away(east.Lo)), 60, api.OfCraft}, why{safe(away(east.Hi + 1)), 60, api.OfNoNotice}, why{safe(away(east.Lo - 1)), 60, api.OfNoNotice},
	)
	// It is too late for a launch if the piece would come down behind the last tick, even if the vehicle comes down before it.
	forever := func(f func(s *api.OfSetup)) func(s *api.OfSetup) {
		return func(s *api.OfSetup) { safe(f)(s); s.Aim.Allowed = area(-500000000, 500000000, -500000000, 500000000) }
	}
	later := append(ready()[:6:6], "at 90000 aim", "at 90000 hold")
	testWhy(t, later, why{forever(away(100000000)), 100000 - falls[0].At.Hi, api.OfNoNotice}, why{forever(away(100000000)), 100000 - falls[0].At.Hi + 1, api.OfCraft}, why{forever(away(100000000)), 100000 - falls[1].At.Hi, api.OfCraft})
}

// P12.4, P12.3: OfCraft, in the flight.
func TestPlane(t *testing.T) {
	exact := func(s *api.OfSetup) {
		s.Dirs[0], s.Limit.Num, s.Laws[1].Cap = api.FlDir{X: 6000, Z: 8000}, 1000000, 1000000
		s.Vehicle.Air, s.Vehicle.Pieces[0].Kick, s.Crafts = nil, api.FlTilt{}, nil
		s.Vehicle.Phases[0].Thrust, s.Vehicle.Phases[0].Tilt = span(1000, 1000), api.FlTilt{}
	}
	s := changed(grand(), exact)
	impacts, _ := officer.Impacts(s, ready(), 60)
	states, e := flight.Fly(s.Vehicle, s.Dirs[0], []api.WnBand{{To: 1}}, impacts[1].At.Hi)
	last := len(states) - 1
	if e != api.OK || states[last].Z.Hi > 0 || states[last].Z.Lo != states[last].Z.Hi || states[last].X.Lo != states[last].X.Hi {
		t.Fatalf("%v, %d", states, e)
	}
	// A plane that is beside, and above, the vehicle at the tick k of the flight, and as fast as stated.
	plane := func(k, beside, above, speed, climb int) func(s *api.OfSetup) {
		return func(s *api.OfSetup) {
			exact(s)
			sight := api.HzSight{Place: api.Place{X: states[k].X.Lo + beside}, Height: max(states[k].Z.Lo+above, 0)}
			s.Crafts = []api.HzCraft{{Name: "far", Sights: []api.HzSight{{Place: api.Place{Y: 100000000}}}}, {Name: "plane", Speed: speed, Climb: climb, High: 2000000000, Sights: []api.HzSight{sight}}}
		}
	}
	for _, k := range []int{0, 1, 20, last / 2, last - 1} {
		testWhy(t, ready()[:8],
			why{plane(k, 0, 0, 0, 0), 60, api.OfCraft},
			why{plane(k, 0, 1, 0, 0), 60, api.OfNoNotice},
			why{plane(k, 1, 0, 0, 0), 60, api.OfNoNotice},
			// It comes as near as this at the tick 60 + k, of a launch at the tick 60.
			why{plane(k, 0, 3*(60+k), 0, 3), 60, api.OfCraft},
			why{plane(k, 0, 3*(60+k)+1, 0, 3), 60, api.OfNoNotice},
			why{plane(k, 0, 3*(60+k)+1, 0, 3), 61, api.OfCraft},
			why{plane(k, -2*(60+k), 0, 2, 0), 60, api.OfCraft},
			why{plane(k, -2*(60+k)-1, 0, 2, 0), 60, api.OfNoNotice},
			why{plane(k, -2*(60+k)-1, 0, 2, 0), 61, api.OfCraft},
		)
	}
	// Where the vehicle comes down it is a hazard at all heights.
	testWhy(t, ready()[:8], why{plane(last, 0, 1000000000, 0, 0), 60, api.OfCraft}, why{plane(last, 1, 0, 0, 0), 60, api.OfNoNotice})
}

// afterReady is the second reading of the lines that are ready.
func afterReady() witness {
	w := witness{setup: grand()}
	for _, s := range ready() {
		x, _ := read(s)
		w.done = append(w.done, x)
	}
	return w
}

// P12.4, P12.3: OfCraft, where the sights of a craft contradict each other, or the flight goes on behind the last tick.
func TestCraftUnknown(t *testing.T) {
	// From about the tick 550 on it can have gone from one place to the other one.
	torn := func(first int) func(s *api.OfSetup) {
		return func(s *api.OfSetup) {
			s.Crafts = []api.HzCraft{{Name: "ghost", Speed: 1, Sights: []api.HzSight{{Tick: first, Place: api.Place{Y: 100000000}}, {Tick: first + 10, Place: api.Place{Y: 100001000}}}}}
		}
	}
	testWhy(t, ready(), why{torn(0), 60, api.OfCraft}, why{torn(0), 500, api.OfCraft}, why{torn(0), 505, 0}, why{torn(0), 504, api.OfCraft})
	endless := func(s *api.OfSetup) {
		s.Aim.Allowed, s.Vehicle.Air, s.Crafts = area(-500000000, 500000000, -500000000, 500000000), nil, nil
		s.Limit.Num = 1000000
	}
	lines := append(ready()[:7:7], "at 90000 hold")
	impacts, _ := officer.Impacts(changed(grand(), endless), lines, 95000)
	last := impacts[1].At.Hi
	testWhy(t, lines, why{endless, 100000 - last, api.OfNoNotice}, why{endless, 100000 - last + 1, api.OfCraft}, why{endless, 100000, api.OfCraft})
}

// P12.4, P12.3: OfNoNotice
func TestNoNotice(t *testing.T) {
	testWhy(t, append(ready(), "at 56 cancel 10"), why{asIs, 60, api.OfNoNotice}) // that of the vehicle begins too late for the piece
	testWhy(t, append(ready(), "at 56 cancel 11"), why{asIs, 60, 0})              // that of the piece is wide enough for the vehicle
	testWhy(t, append(ready(), "at 56 cancel 10", "at 56 notice 20"), why{asIs, 60, 0})
	testWhy(t, append(ready(), "at 56 cancel 10", "at 56 notice 9"), why{asIs, 60, 0})
	// A notice is of the launches in the window, which is from 50 to 1500, with a slack of 50.
	lasting := func(s *api.OfSetup) { s.Wind.Sources[0].Life, s.Crafts = 60000, nil }
	wide := func(s *api.OfSetup) { lasting(s); s.Aim.Allowed = area(-90000, 90000, -90000, 90000); s.Wind.Age = 0 }
	exact := func(s *api.OfSetup) { wide(s); s.Slack = 0 }
	early := append(ready()[:9:9], "at 10 sound blue 50000 470 10")
	testWhy(t, early, why{exact, 49, api.OfNoNotice}, why{exact, 50, 0}, why{exact, 1500, 0}, why{exact, 1501, api.OfNoNotice})
	testWhy(t, early[:9], why{wide, 5, 0}, why{wide, 1550, 0}, why{wide, 1551, api.OfNoNotice})
	// It has the area of the setting to the west, and not that to the east.
	turned := append(windAt(0, 1600), "at 2 aim", "at 5 notice 10")
	testWhy(t, turned, why{calm, 10, 0})
	turned = append(turned, append(windAt(610, -1600), "at 610 aim")...)
	testWhy(t, turned, why{calm, 620, api.OfNoNotice})
	testWhy(t, append(turned, "at 615 notice 12"), why{calm, 620, 0})
	// That of the piece does not do for the vehicle, which flies farther.
	beyond := func(s *api.OfSetup) { calm(s); s.Dirs[2] = api.FlDir{X: 6000, Z: 8000}; s.Limit.Num = 1000000 }
	east := append(windAt(0, -1600), "at 2 aim", "at 5 notice 10")
	testWhy(t, east, why{beyond, 10, 0})
	testWhy(t, append(east, "at 5 cancel 11"), why{beyond, 10, api.OfNoNotice})
	testWhy(t, append(east, "at 5 cancel 10"), why{beyond, 10, api.OfNoNotice})
}

// P12.4: errors of ticks, and after a launch.
func TestTicks(t *testing.T) {
	for i, c := range []struct {
		lines []string
		tick  int
		e     api.Errno
	}{
		{nil, 0, api.OK}, {nil, -1, api.ErrRange}, {nil, 100000, api.OK}, {nil, 100001, api.ErrRange}, {nil, math.MinInt, api.ErrRange}, {nil, math.MaxInt, api.ErrRange},
		{ready(), 55, api.OK}, {ready(), 54, api.ErrRange}, {append(ready(), "at 70 end fill"), 55, api.OK},
		{launched(), 60, api.ErrDown}, {launched(), 100000, api.ErrDown}, {launched(), 59, api.ErrRange}, {launched(), 100001, api.ErrRange},
		{append(launched(), "at 90 look"), 90, api.ErrDown}, {append(launched(), "at 90 look"), 89, api.ErrRange},
		{make([]string, 120), 0, api.OK}, {make([]string, 121), 0, api.ErrLong}, {make([]string, 121), -1, api.ErrLong},
	} {
		why, e := officer.Clear(grand(), c.lines, c.tick)
		impacts, f := officer.Impacts(grand(), c.lines, c.tick)
		if len(c.lines) == 0 || c.lines[0] == "" { // there is no setting
			if c.e == api.OK && f == api.ErrDown {
				f = api.OK
			}
		}
		if e != c.e || f != c.e || e != api.OK && (why != 0 || len(impacts) > 0) {
			t.Errorf("%d: %d, %d, %v, %d, and not %d", i, why, e, impacts, f, c.e)
		}
	}
}

// P12.4: Impacts
func TestImpacts(t *testing.T) {
	s := grand()
	for _, tick := range []int{55, 60, 61, 600, 1000, 1201} {
		bands, _ := wind.Bands(afterReady().winds(), tick, tick)
		want, e := flight.Impacts(s.Vehicle, s.Dirs[0], bands)
		l, f := officer.Impacts(s, ready(), tick)
		if !slices.Equal(l, want) || e != f {
			t.Errorf("%v, %d, and not %v, %d", l, f, want, e)
		}
	}
	// The direction is that of the setting.
	one, _ := officer.Impacts(s, readyIn(1600, 1620), 55)
	two, _ := officer.Impacts(s, readyIn(-1600, -1580), 55)
	if len(one) != 2 || len(two) != 2 || one[0].Area.X.Lo > -100000 || two[0].Area.X.Hi < 100000 {
		t.Errorf("%v, %v", one, two)
	}
	// The ticks are those of the flight of the example.
	l, e := officer.Impacts(example(), []string{"at 3 aim"}, 7)
	if want := []api.FlImpact{{Area: area(-79, 79, 0, 0), At: span(40, 40)}}; !slices.Equal(l, want) || e != api.OK {
		t.Errorf("%v, %d", l, e)
	}
	for i, c := range []struct {
		change func(s *api.OfSetup)
		lines  []string
		e      api.Errno
	}{
		{asIs, nil, api.ErrDown},
		{asIs, readyIn(450, 900), api.ErrDown},
		{func(s *api.OfSetup) { s.Vehicle.Pieces[0].Drag = span(500, 1000) }, nil, api.ErrDown},
		{func(s *api.OfSetup) { s.Vehicle.Pieces[0].Drag = span(500, 1000) }, ready(), api.ErrLong},
		{func(s *api.OfSetup) { s.Vehicle.Pieces[0].Drag = span(500, 1000) }, readyIn(450, 900), api.ErrDown},
		{func(s *api.OfSetup) { s.Vehicle.Air, s.Vehicle.Gravity.Lo = nil, 0 }, ready(), api.ErrDown},
	} {
		if l, e := officer.Impacts(changed(grand(), c.change), c.lines, 55); len(l) > 0 || e != c.e {
			t.Errorf("%d: %v, %d, and not %d", i, l, e, c.e)
		}
	}
}
