package destruct_test

import (
	"math"
	"testing"

	"hangfire/api"
	"hangfire/destruct"
	"hangfire/track"
)

// torn is a task in which no tracker may fail from the tick 10 to the tick 32, by what is known at 25 and later: at 20 three exact trackers are apart so far.
func torn() api.TkTask {
	t := tracked()
	t.Plots[1].Z, t.Plots[2].Z = 0, -1000
	return t
}

// bound is a task in which the only place at the tick 63240 is so near the end of all places, and the flight so fast, that there is no box ahead by 9 ticks.
func bound() api.TkTask {
	t := api.TkTask{Speed: fast, Accel: 1}
	for i, name := range []string{"a", "b"} {
		t.Trackers = append(t.Trackers, api.TkTracker{Name: name})
		t.Plots = append(t.Plots, api.TkPlot{Tracker: i, Tick: 63232, X: far - 500000 - 8*60000}, api.TkPlot{Tracker: i, Tick: 63240, X: far - 500000})
	}
	return t
}

// P6.4, with the example of the chapter.
func TestUsed(t *testing.T) {
	wide, quick := span(-600, 600), span(-400, 400)
	b, from, e := destruct.Used(example(), lone(), 0)
	if e != api.OK || from != 0 || b != (api.TkBox{At: 3, X: wide, Y: wide, Z: wide, VX: quick, VY: quick, VZ: quick}) {
		t.Errorf("Used = %v, %d, %d", b, from, e)
	}
	p := example()
	p.Wait = 0
	wide, quick = span(-100, 100), span(-200, 200)
	b, from, e = destruct.Used(p, lone(), 0)
	if e != api.OK || from != 0 || b != (api.TkBox{At: 1, X: wide, Y: wide, Z: wide, VX: quick, VY: quick, VZ: quick}) {
		t.Errorf("Used = %v, %d, %d", b, from, e)
	}
	// The plots are known from the tick 25 on, 5 ticks behind which the flight is at most 500 farther; then it goes on for 3 ticks with the speed 100.
	for now, x := range map[int]api.Span{24: span(-1400-300, 1400+300), 25: span(-400-300, 600+300)} {
		if b, from, e = destruct.Used(example(), tracked(), now); e != api.OK || from != now || b.At != now+3 || b.X != x {
			t.Errorf("Used at %d = %v, %d, %d", now, b, from, e)
		}
	}
}

// P6.4: the last tick at which there is a spare box.
func TestUsedFrom(t *testing.T) {
	// Ahead of the box at 9, with the velocity 0 to 0, it rests for a tick, and goes on with the speed 100.
	for _, c := range []struct{ now, blind, from int }{
		{24, 0, 24}, {25, 15, -1}, {25, 16, 9}, {25, 17, 9}, {25, 300, 9}, {25, 0, -1}, {26, 16, -1}, {26, 17, 9}, {32, 22, -1}, {32, 23, 9}, {33, 0, 33}, {33, 300, 33},
	} {
		p := example()
		p.Blind = c.blind
		b, from, e := destruct.Used(p, torn(), c.now)
		look, f := destruct.Look(p, torn(), c.now)
		if c.from < 0 {
			if b != (api.TkBox{}) || from != 0 || e != api.ErrDown || look != (api.DeLook{Why: api.DeWhyBlind, Line: -1}) || f != api.OK {
				t.Errorf("%v: Used = %v, %d, %d; Look = %v, %d", c, b, from, e, look, f)
			}
			continue
		}
		s, _ := track.Spare(torn(), c.from, c.now)
		want, g := track.Ahead(torn(), s, c.now-c.from+3)
		if b != want || from != c.from || b.At != c.now+3 || e != api.OK || look.Box != want || f != api.OK || g != api.OK {
			t.Errorf("%v: Used = %v, %d, %d; Look = %v, %d", c, b, from, e, look, f)
		}
		if x := 100 * (c.now - 9 + 2); from == 9 && b.X != span(-x, x) {
			t.Errorf("%v: Used = %v", c, b)
		}
	}
	// Before the tick 0 there is nothing.
	early := torn()
	early.From = 0
	for i := range early.Plots {
		early.Plots[i].Tick = 8
	}
	p := example()
	p.Blind = 300
	for now, e := range map[int]api.Errno{12: api.OK, 13: api.ErrDown, 20: api.ErrDown, 21: api.OK} {
		b, from, f := destruct.Used(p, early, now)
		if f != e || e == api.OK && (from != now || b.At != now+3) || e != api.OK && (from != 0 || b != api.TkBox{}) {
			t.Errorf("Used at %d = %v, %d, %d", now, b, from, f)
		}
	}
}

// P6.4: there is no box ahead, and an older one takes not its place.
func TestUsedAhead(t *testing.T) {
	p := example()
	for wait, e := range map[int]api.Errno{0: api.OK, 7: api.OK, 8: api.ErrDown, 9: api.ErrDown, 100: api.ErrDown} {
		p.Wait = wait
		b, from, f := destruct.Used(p, bound(), 63240)
		if f != e || e == api.OK && (from != 63240 || b.At != 63241+wait) || e != api.OK && (from != 0 || b != api.TkBox{}) {
			t.Errorf("Used with %d = %v, %d, %d", wait, b, from, f)
		}
		look, f := destruct.Look(p, bound(), 63240)
		if f != api.OK || (look.Why == api.DeWhyBlind) != (e != api.OK) {
			t.Errorf("Look with %d = %v, %d", wait, look, f)
		}
		older, f := track.Spare(bound(), 63239, 63240)
		if _, g := track.Ahead(bound(), older, wait+2); f != api.OK || g != api.OK {
			t.Errorf("an older one: %d, %d", f, g)
		}
	}
	// The tick of the box has to be one.
	p = example()
	for now, e := range map[int]api.Errno{99997: api.OK, 99998: api.ErrDown, 100000: api.ErrDown} {
		b, from, f := destruct.Used(p, lone(), now)
		if f != e || e == api.OK && (from != now || b.At != 100000) || e != api.OK && (from != 0 || b != api.TkBox{}) {
			t.Errorf("Used at %d = %v, %d, %d", now, b, from, f)
		}
		p.Blind = 300
	}
}

// P6.5, with the example of the chapter.
func TestLook(t *testing.T) {
	b, _, _ := destruct.Used(example(), lone(), 0)
	wide := area(span(-5000, 5000), span(-5000, 5000))
	l, e := destruct.Look(example(), lone(), 0)
	if e != api.OK || l != (api.DeLook{Box: b, Area: wide, At: span(4, 14), Line: -1}) {
		t.Errorf("Look = %v, %d", l, e)
	}
	for _, c := range []struct{ a, b, why, line int }{
		{5000, 5000, 0, -1}, {4999, 5000, api.DeWhyLine, 0}, {5000, 4999, api.DeWhyLine, 1}, {4999, 4999, api.DeWhyLine, 0}, {-5001, 5000, api.DeWhyLine, 0}, {5000, -offset, api.DeWhyLine, 1},
	} {
		p := example()
		p.Lines[0].Keep, p.Lines[0].Line = -offset, c.a
		p.Lines[1].Keep, p.Lines[1].Line = -offset, c.b
		if l, e := destruct.Look(p, lone(), 0); e != api.OK || l != (api.DeLook{Box: b, Area: wide, At: span(4, 14), Why: c.why, Line: c.line}) {
			t.Errorf("%v: Look = %v, %d", c, l, e)
		}
	}
}

// P6.5: it cannot be foreseen where it comes down.
func TestLookFar(t *testing.T) {
	for i, c := range []struct {
		gravity, now, why int
		e                 api.Errno
	}{
		{1, 10, 0, api.OK},                    // it goes up with at most 1400, and comes down after some 2800 ticks
		{1, 20, api.DeWhyFar, api.ErrDown},    // with 2400
		{98, 20, 0, api.OK},                   // gravity is greater
		{98, 8000, api.DeWhyFar, api.ErrLong}, // up to 1.4 x 10^9 away, with up to 200000 in a tick
	} {
		p := example()
		p.Gravity = only(c.gravity)
		p.Lines = []api.DeLine{{A: 1, Keep: -offset, Line: offset}}
		b, _, _ := destruct.Used(p, lone(), c.now)
		a, at, e := destruct.Fall(p, b)
		l, f := destruct.Look(p, lone(), c.now)
		if e != c.e || f != api.OK || l != (api.DeLook{Box: b, Area: a, At: at, Why: c.why, Line: -1}) || b.At != c.now+3 {
			t.Errorf("%d: Fall: %d; Look = %v, %d", i, e, l, f)
		}
		// Beyond which line it may be is not told.
		p.Lines[0].Line = -offset
		want := api.DeLook{Box: b, Why: api.DeWhyFar, Line: -1}
		if e == api.OK {
			want = api.DeLook{Box: b, Area: a, At: at, Why: api.DeWhyLine}
		}
		if l, f = destruct.Look(p, lone(), c.now); l != want || f != api.OK {
			t.Errorf("%d: Look = %v, %d", i, l, f)
		}
	}
}

// P6.5, with the example of the chapter.
func TestDecide(t *testing.T) {
	ended := func(tick, why, line int) api.DeEnd { return api.DeEnd{Tick: tick, Why: why, Line: line} }
	none := ended(-1, 0, -1)
	east := func(line int) api.DePlan {
		p := example()
		p.Lines[0].Keep, p.Lines[0].Line = 0, line
		return p
	}
	south := east(offset)
	south.Lines[1].Line = 50000
	// How far it comes down at most, as the ticks go by.
	var reach []int
	for now := range 8 {
		l, _ := destruct.Look(example(), lone(), now)
		reach = append(reach, l.Area.X.Hi)
	}
	blind := example()
	blind.Blind = 16
	for i, c := range []struct {
		p           api.DePlan
		x           api.TkTask
		first, last int
		want        api.DeEnd
	}{
		{east(4999), lone(), 0, 5, ended(0, api.DeWhyLine, 0)},
		{east(5000), lone(), 0, 0, none},
		{east(reach[1]), lone(), 0, 1, none},
		{east(reach[1]), lone(), 0, 2, ended(2, api.DeWhyLine, 0)},
		{east(reach[1]), lone(), 0, 7, ended(2, api.DeWhyLine, 0)},
		{east(reach[1]), lone(), 2, 7, ended(2, api.DeWhyLine, 0)},
		{east(reach[1]), lone(), 5, 7, ended(5, api.DeWhyLine, 0)},
		{east(reach[6]), lone(), 3, 7, ended(7, api.DeWhyLine, 0)},
		{example(), lone(), 0, 7, none},
		{south, lone(), 0, 50, ended(9, api.DeWhyLine, 1)}, // at 8 it is 6600, and 30 times 1200, at 9 it is 7800, and 33 times 1300
		{example(), torn(), 0, 24, none},
		{example(), torn(), 0, 40, ended(25, api.DeWhyBlind, -1)},
		{example(), torn(), 33, 40, none},
		{blind, torn(), 0, 40, ended(26, api.DeWhyBlind, -1)},
		{east(offset), lone(), 7900, 8099, ended(7900, api.DeWhyFar, -1)},
	} {
		if got, e := destruct.Decide(c.p, c.x, c.first, c.last); got != c.want || e != api.OK {
			t.Errorf("%d: Decide = %v, %d", i, got, e)
		}
	}
}

// P6.4, P6.5: ticks that are none, or too many.
func TestTicks(t *testing.T) {
	for _, n := range []int{-1, 100001, math.MinInt, math.MaxInt} {
		for _, x := range []api.TkTask{lone(), torn()} {
			b, from, e := destruct.Used(example(), x, n)
			l, f := destruct.Look(example(), x, n)
			if b != (api.TkBox{}) || from != 0 || e != api.ErrRange || l != (api.DeLook{}) || f != api.ErrRange {
				t.Errorf("at %d: Used = %v, %d, %d; Look = %v, %d", n, b, from, e, l, f)
			}
		}
	}
	for _, c := range []struct {
		first, last int
		e           api.Errno
	}{
		{0, 0, api.OK}, {0, 199, api.OK}, {0, 200, api.ErrLong}, {1, 200, api.OK}, {0, 100000, api.ErrLong}, {99801, 100000, api.OK}, {99800, 100000, api.ErrLong}, {100000, 100000, api.OK},
		{1, 0, api.ErrRange}, {300, 0, api.ErrRange}, {-1, 0, api.ErrRange}, {-1, -1, api.ErrRange}, {0, -1, api.ErrRange}, {0, 100001, api.ErrRange}, {100000, 100001, api.ErrRange}, {100001, 100001, api.ErrRange},
		{math.MinInt, math.MaxInt, api.ErrRange}, {math.MaxInt, math.MinInt, api.ErrRange}, {0, math.MaxInt, api.ErrRange}, {math.MinInt, 0, api.ErrRange},
	} {
		got, e := destruct.Decide(example(), lone(), c.first, c.last)
		if e != c.e || e != api.OK && got != (api.DeEnd{}) {
			t.Errorf("Decide from %d to %d = %v, %d", c.first, c.last, got, e)
		}
	}
}
