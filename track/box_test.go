package track_test

import (
	"math"
	"testing"

	"hangfire/api"
	"hangfire/track"
)

// P5.3, with the examples of the chapter.
func TestWhere(t *testing.T) {
	b, e := track.Where(example(), 100, 150)
	if e != api.OK || b != (api.TkBox{At: 100, VX: span(-50, 50), VY: span(-50, 50), VZ: span(-50, 50)}) {
		t.Errorf("Where = %v, %d", b, e)
	}
	b, e = track.Where(example(), 120, 150)
	if e != api.OK || b.At != 120 || b.X != span(-600, 1000) || b.Y != span(-700, 900) || b.Z != span(8700, 10300) || b.VZ != span(563, 1000) {
		t.Errorf("Where = %v, %d", b, e)
	}
	// By what is known at 120, at 139 and at 140.
	for now, z := range map[int]api.Span{0: span(-10500, 10500), 119: span(-10500, 10500), 120: span(4000, 10500), 125: span(6500, 10500), 139: span(6500, 10500), 140: span(8700, 10300)} {
		if b, e := track.Where(example(), 120, now); e != api.OK || b.Z != z {
			t.Errorf("Where by %d = %v, %d", now, b, e)
		}
	}
	// Before the flight begins it is at the pad, whatever is known.
	for _, tick := range []int{0, 99} {
		if b, e := track.Where(example(), tick, 150); e != api.OK || b != (api.TkBox{At: tick}) {
			t.Errorf("Where at %d = %v, %d", tick, b, e)
		}
	}
}

// P5.3, with the example of the chapter.
func TestAlone(t *testing.T) {
	b, e := track.Alone(example(), 1, 120, 150)
	if e != api.OK || b.At != 120 || b.X != span(-3000, 5000) || b.Y != span(-4000, 4000) || b.Z != span(4000, 10500) {
		t.Errorf("Alone = %v, %d", b, e)
	}
	// What is not known tells nothing.
	none := slow()
	none.Speed, none.Accel = 1000, 50
	want, _ := track.Where(none, 120, 0)
	if b, e := track.Alone(example(), 0, 120, 124); e != api.OK || b != want {
		t.Errorf("Alone = %v, %d, and not %v", b, e, want)
	}
	b, e = track.Alone(example(), 0, 120, 125)
	if e != api.OK || b.X != span(-3500, 3500) || b.Y != span(-3500, 3500) || b.Z != span(6500, 10500) {
		t.Errorf("Alone = %v, %d", b, e)
	}
}

// P5.3: the order of errors.
func TestWhereErrors(t *testing.T) {
	x := example()
	for _, c := range []struct {
		tick, now int
		e         api.Errno
	}{
		{0, 0, api.OK}, {100000, 100000, api.OK}, {-1, 0, api.ErrRange}, {0, -1, api.ErrRange}, {100001, 0, api.ErrRange}, {0, 100001, api.ErrRange},
		{math.MinInt, 0, api.ErrRange}, {0, math.MaxInt, api.ErrRange},
	} {
		_, a := track.Where(x, c.tick, c.now)
		_, b := track.Alone(x, 0, c.tick, c.now)
		_, d := track.Alone(x, 2, c.tick, c.now)
		_, _, f := track.Fails(x, c.tick, c.now)
		_, g := track.Spare(x, c.tick, c.now)
		_, h := track.Best(x, c.tick, c.now)
		if a != c.e || b != c.e || d != c.e || f != c.e || g != c.e || h != c.e {
			t.Errorf("%d, %d: %d, %d, %d, %d, %d, %d", c.tick, c.now, a, b, d, f, g, h)
		}
		for _, tracker := range []int{-1, 3, math.MinInt, math.MaxInt} {
			if b, e := track.Alone(x, tracker, c.tick, c.now); b != (api.TkBox{}) || e != api.ErrNone {
				t.Errorf("Alone of %d = %v, %d", tracker, b, e)
			}
		}
	}
	if _, e := track.Alone(slow(), 0, 0, 0); e != api.ErrNone {
		t.Errorf("Alone: %d", e)
	}
}

// P5.3: without a tracker a flight can be wherever it reaches.
func TestWhereByNothing(t *testing.T) {
	for _, c := range []struct{ tick, place, velocity int }{
		{99, 0, 0}, {100, 0, 3}, {101, 3, 6}, {102, 9, 9}, {105, 45, 18}, {106, 63, 20}, {107, 83, 20}, {100000, 63 + 99894*20, 20},
	} {
		b, e := track.Where(slow(), c.tick, 0)
		p, v := span(-c.place, c.place), span(-c.velocity, c.velocity)
		if e != api.OK || b != (api.TkBox{At: c.tick, X: p, Y: p, Z: p, VX: v, VY: v, VZ: v}) {
			t.Errorf("Where at %d = %v, %d", c.tick, b, e)
		}
	}
}

// P5.3: no place is farther than MaxPlace from the pad, however fast a flight is, and what is there does not go farther.
func TestWhereAtTheEnd(t *testing.T) {
	x := api.TkTask{Speed: fast, Accel: fast}
	for tick, most := range map[int]int{1999: 1999000000, 2000: far, 2001: far, 100000: far} {
		if b, e := track.Where(x, tick, 0); e != api.OK || b.X != span(-most, most) || b.VX != span(-fast, fast) {
			t.Errorf("Where at %d = %v, %d", tick, b, e)
		}
	}
	x = with(x, []api.TkPlot{{Tick: 3000, X: far, Y: -far}})
	b, e := track.Where(x, 3000, 3000)
	if e != api.OK || b.X != span(far, far) || b.VX != span(-fast, 0) || b.Y != span(-far, -far) || b.VY != span(0, fast) || b.VZ != span(-fast, fast) {
		t.Errorf("Where = %v, %d", b, e)
	}
	b, e = track.Where(x, 3001, 3000)
	if e != api.OK || b.X != span(far-fast, far) || b.Y != span(-far, fast-far) || b.Z != span(-fast, fast) {
		t.Errorf("Where = %v, %d", b, e)
	}
	// A plot for which it would have to be too fast: by 3 m in the first 2000 ticks.
	x.Plots[0].Tick = 1999
	if b, e := track.Where(x, 1999, 3000); b != (api.TkBox{}) || e != api.ErrDown {
		t.Errorf("Where = %v, %d", b, e)
	}
}

// P5.3: a plot counts for all ticks, before it and behind it.
func TestWhereByOnePlot(t *testing.T) {
	x := api.TkTask{From: 100, Speed: 20, Accel: 10, Trackers: []api.TkTracker{{Name: "a", Error: 5, Late: 7}}}
	x.Plots = []api.TkPlot{{Tick: 120, X: 385}}
	for _, c := range []struct {
		tick  int
		x, vx api.Span
	}{
		{100, span(0, 0), span(5, 10)},       // it is at 20 at least two ticks later, having gained 10 at most
		{119, span(360, 370), span(10, 20)},  // it cannot have got farther than 370, and has to get to 380
		{120, span(380, 390), span(0, 20)},   // it has gone 10 at least, and now may go 10 less
		{121, span(360, 410), span(-16, 20)}, // it was at 350 at most, three ticks ago
		{122, span(340, 430), span(-20, 20)},
	} {
		if b, e := track.Where(x, c.tick, 127); e != api.OK || b.At != c.tick || b.X != c.x || b.VX != c.vx {
			t.Errorf("Where at %d = %v, %d", c.tick, b, e)
		}
		if b, e := track.Where(x, c.tick, 126); e != api.OK || b.X.Lo != -b.X.Hi || b.VX.Lo != -b.VX.Hi {
			t.Errorf("Where at %d, by 126 = %v, %d", c.tick, b, e)
		}
	}
}

// P5.3: the velocity by two places, so many ticks apart, of which the task tells how much it may change meanwhile.
func TestVelocityByPlaces(t *testing.T) {
	x := api.TkTask{Speed: 1000, Accel: 1, Trackers: []api.TkTracker{{Name: "a"}}}
	for _, c := range []struct {
		before, behind int // ticks from 2000 on
		vx             api.Span
	}{
		{1, 0, span(99, 101)},  // 100 in the last tick; it may have changed by 1
		{0, 1, span(100, 100)}, // 100 in this tick
		{8, 0, span(96, 104)},  // 800 in the last 8 ticks, and 36 more or less: 95.5 to 104.5
		{0, 8, span(97, 103)},  // 800 in 8 ticks, and 28 more or less: 96.5 to 103.5
		{2, 0, span(99, 101)},  // 200, and 3: 98.5 to 101.5
		{0, 2, span(100, 100)}, // 200, and 1: 99.5 to 100.5
		{0, 4, span(99, 101)},  // 400, and 6: 98.5 to 101.5
		{9, 0, span(-17, 242)}, // 8 ticks ago it was within 1000 of the place: it has gone -100 to 1900, and 36 more or less
		{0, 9, span(-16, 241)}, // so it will be in 8 ticks, and 28 more or less
	} {
		x.Plots = nil
		for _, tick := range []int{2000 - c.before, 2000 + c.behind} {
			x.Plots = append(x.Plots, api.TkPlot{Tick: tick, X: 100 * tick})
		}
		if b, e := track.Where(x, 2000, 2100); e != api.OK || b.X != span(200000, 200000) || b.VX != c.vx {
			t.Errorf("Where by %v = %v, %d", c, b, e)
		}
	}
}

// P5.3: the least and the greatest whole number, also below 0.
func TestVelocityIsWhole(t *testing.T) {
	x := api.TkTask{Speed: 1000, Accel: 1, Trackers: []api.TkTracker{{Name: "a"}}}
	for _, c := range []struct {
		way int // in 3 ticks
		vx  api.Span
	}{
		{0, span(-1, 1)}, {1, span(0, 1)}, {2, span(0, 1)}, {3, span(0, 2)}, {4, span(1, 2)},
		{-1, span(-1, 0)}, {-2, span(-1, 0)}, {-3, span(-2, 0)}, {-4, span(-2, -1)},
	} {
		x.Plots = []api.TkPlot{{Tick: 2000, X: 500}, {Tick: 2003, X: 500 + c.way}}
		if b, e := track.Where(x, 2000, 2100); e != api.OK || b.VX != c.vx {
			t.Errorf("Where by %v = %v, %d", c, b, e)
		}
	}
}

// P5.3: at the first tick, and at the last one, the ticks on one side alone tell of the velocity.
func TestWhereAtTheEndsOfTime(t *testing.T) {
	x := with(api.TkTask{From: 100000, Speed: 9, Accel: 4}, []api.TkPlot{{Tick: 100000, X: 50}})
	// At From the place is 0, whatever a plot says.
	if b, e := track.Where(x, 100000, 100000); e != api.OK || b.X != span(0, 0) || b.VX != span(-4, 4) {
		t.Errorf("Where = %v, %d", b, e)
	}
	// One tick earlier the next place contradicts it.
	x.From, x.Plots[0].Tick = 99999, 99999
	if b, e := track.Where(x, 99999, 100000); b != (api.TkBox{}) || e != api.ErrDown {
		t.Errorf("Where = %v, %d", b, e)
	}
	if b, e := track.Where(x, 99998, 100000); b != (api.TkBox{At: 99998}) || e != api.OK {
		t.Errorf("Where = %v, %d", b, e)
	}
	// At the last tick the one before it tells: it goes 4, and then from 0 to 8.
	x.Plots[0] = api.TkPlot{Tick: 100000, X: 4}
	if b, e := track.Where(x, 100000, 100000); e != api.OK || b.X != span(4, 4) || b.VX != span(0, 8) {
		t.Errorf("Where = %v, %d", b, e)
	}
	if b, e := track.Where(x, 99999, 100000); e != api.OK || b.X != span(0, 0) || b.VX != span(4, 4) {
		t.Errorf("Where = %v, %d", b, e)
	}
}

// P5.3: there is no box where no number is left for the place, for one near it, or for the velocity, of any part.
func TestNoBox(t *testing.T) {
	for i, c := range []struct {
		accel int
		plots []api.TkPlot
		down  api.Span // the ticks at which there is no box
	}{
		// 41 apart, and at most 20 for each tick: no place at 200, 201 and 202.
		{20, []api.TkPlot{{Tick: 200}, {Tick: 202, X: 41}}, span(192, 210)},
		{20, []api.TkPlot{{Tick: 200}, {Tick: 202, X: 40}}, span(0, -1)},
		// No place at 201 alone: the plots have a width of 1, and the one in between does not.
		{20, []api.TkPlot{{Tracker: 1, Tick: 200}, {Tick: 201, X: 22}}, span(192, 209)},
		{20, []api.TkPlot{{Tracker: 1, Tick: 200}, {Tick: 201, X: 21}}, span(0, -1)},
		// 20 in one tick, and 20 back in the next one: there are places throughout, but the velocity would change by 40.
		{39, []api.TkPlot{{Tick: 200}, {Tick: 201, X: 20}, {Tick: 202}}, span(200, 201)},
		{40, []api.TkPlot{{Tick: 200}, {Tick: 201, X: 20}, {Tick: 202}}, span(0, -1)},
	} {
		for part := range 3 {
			x := api.TkTask{Speed: 20, Accel: c.accel, Trackers: []api.TkTracker{{Name: "a"}, {Name: "b", Error: 1}}}
			for _, p := range c.plots {
				n := [3]int{}
				n[part] = p.X
				x.Plots = append(x.Plots, api.TkPlot{Tracker: p.Tracker, Tick: p.Tick, X: n[0], Y: n[1], Z: n[2]})
			}
			for tick := 180; tick < 220; tick++ {
				b, e := track.Where(x, tick, 1000)
				if down := has(c.down, tick); down != (e == api.ErrDown) || down && b != (api.TkBox{}) || !down && e != api.OK {
					t.Errorf("%d: Where at %d = %v, %d", i, tick, b, e)
				}
				b, e = track.Alone(x, 0, tick, 1000)
				if down := has(c.down, tick) && c.plots[0].Tracker == 0; down != (e == api.ErrDown) || down && b != (api.TkBox{}) || !down && e != api.OK {
					t.Errorf("%d: Alone at %d = %v, %d", i, tick, b, e)
				}
			}
		}
	}
}

// ahead is the box of the chapter's example of Ahead.
func ahead() api.TkBox { return api.TkBox{At: 120, X: span(0, 10), VX: span(100, 200)} }

// P5.6, with the example of the chapter.
func TestAhead(t *testing.T) {
	for _, c := range []struct {
		n         int
		x, vx, vy int
		hx, hvx   int
	}{
		{0, 0, 100, 0, 10, 200}, {1, 100, 50, 50, 210, 250}, {2, 150, 0, 100, 460, 300}, {3, 150, -50, 150, 760, 350},
	} {
		b, e := track.Ahead(example(), ahead(), c.n)
		v := span(-c.vy, c.vy)
		if e != api.OK || b.At != 120+c.n || b.X != span(c.x, c.hx) || b.VX != span(c.vx, c.hvx) || b.VY != v || b.VZ != v {
			t.Errorf("Ahead by %d = %v, %d", c.n, b, e)
		}
	}
	b, e := track.Ahead(example(), ahead(), 2)
	if e != api.OK || b.Y != span(-50, 50) || b.Z != span(-50, 50) {
		t.Errorf("Ahead = %v, %d", b, e)
	}
	// It gets no faster than it can be.
	b, e = track.Ahead(example(), ahead(), 600)
	if e != api.OK || b.VX != span(-1000, 1000) || b.VY != span(-1000, 1000) || b.At != 720 {
		t.Errorf("Ahead = %v, %d", b, e)
	}
}

// P5.6
func TestAheadErrors(t *testing.T) {
	for _, c := range []struct {
		at, n int
		e     api.Errno
	}{
		{0, 600, api.OK}, {0, 601, api.ErrRange}, {0, -1, api.ErrRange}, {0, math.MinInt, api.ErrRange}, {0, math.MaxInt, api.ErrRange},
		{99400, 600, api.OK}, {99401, 600, api.ErrRange}, {100000, 0, api.OK}, {100000, 1, api.ErrRange}, {100001, 0, api.ErrRange}, {100000, math.MaxInt, api.ErrRange},
	} {
		b, e := track.Ahead(example(), api.TkBox{At: c.at}, c.n)
		if e != c.e || e == api.OK && b.At != c.at+c.n || e != api.OK && b != (api.TkBox{}) {
			t.Errorf("Ahead of %d by %d = %v, %d", c.at, c.n, b, e)
		}
	}
}

// P5.6: a span is narrowed, to Speed at first and in each tick, and to MaxPlace behind it; if no number is left, it stays so.
func TestAheadNarrows(t *testing.T) {
	for i := range 3 {
		for _, c := range []struct {
			p, v   api.Span
			n      int
			wp, wv api.Span
			e      api.Errno
		}{
			{span(5, 6), span(-5000, 5000), 0, span(5, 6), span(-1000, 1000), api.OK},
			{span(5, 6), span(-5000, 5000), 1, span(-995, 1006), span(-1000, 1000), api.OK},
			{span(5, 6), span(990, 5000), 1, span(995, 1006), span(940, 1000), api.OK},
			{span(5, 6), span(-5000, -990), 1, span(-995, -984), span(-1000, -940), api.OK},
			{span(5, 6), span(1000, 5000), 0, span(5, 6), span(1000, 1000), api.OK},
			{span(5, 6), span(1001, 5000), 0, span(0, 0), span(0, 0), api.ErrDown},
			{span(5, 6), span(1001, 5000), 9, span(0, 0), span(0, 0), api.ErrDown}, // not even if the velocity is wider then
			{span(5, 6), span(-5000, -1001), 9, span(0, 0), span(0, 0), api.ErrDown},
			{span(far-10, far), span(10, 20), 0, span(far-10, far), span(10, 20), api.OK},
			{span(far-10, far), span(10, 20), 1, span(far, far), span(-40, 70), api.OK},
			{span(far-10, far), span(11, 20), 1, span(0, 0), span(0, 0), api.ErrDown},
			{span(far-10, far), span(11, 20), 3, span(0, 0), span(0, 0), api.ErrDown}, // not even if it could turn back then
			{span(-far, 10-far), span(-20, -10), 1, span(-far, -far), span(-70, 40), api.OK},
			{span(-far, 10-far), span(-20, -11), 1, span(0, 0), span(0, 0), api.ErrDown},
			{span(-far, 10-far), span(-20, -11), 3, span(0, 0), span(0, 0), api.ErrDown},
			{span(-far, far), span(-1, 1), 2, span(-far, far), span(-101, 101), api.OK},
		} {
			var b api.TkBox
			*spansOf(&b)[i], *spansOf(&b)[i+3] = c.p, c.v
			got, e := track.Ahead(example(), b, c.n)
			if e != c.e || *spansOf(&got)[i] != c.wp || *spansOf(&got)[i+3] != c.wv || e != api.OK && got.At != 0 {
				t.Errorf("%d: Ahead of %v = %v, %d", i, c, got, e)
			}
		}
	}
}
