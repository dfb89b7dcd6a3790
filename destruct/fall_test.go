package destruct_test

import (
	"math"
	"testing"

	"hangfire/api"
	"hangfire/destruct"
)

// fallCase is a change of the box of the examples and of the gravity, and what Fall returns then.
type fallCase struct {
	change func(b *api.TkBox, gravity *api.Span)
	a      api.Area
	at     api.Span
	e      api.Errno
}

func runFalls(t *testing.T, l []fallCase) {
	t.Helper()
	for i, c := range l {
		p, b := example(), dropped()
		c.change(&b, &p.Gravity)
		if a, at, e := destruct.Fall(p, b); a != c.a || at != c.at || e != c.e {
			t.Errorf("%d: Fall of %v = %v, %v, %d", i, b, a, at, e)
		}
	}
}

// P6.2, with the examples of the chapter.
func TestFall(t *testing.T) {
	rest := func(b *api.TkBox) { *b = api.TkBox{At: 50} }
	runFalls(t, []fallCase{
		{func(b *api.TkBox, _ *api.Span) {}, area(span(600, 670), span(-30, 30)), only(56), api.OK},
		{func(b *api.TkBox, _ *api.Span) { b.Z.Hi = 1500 }, area(span(600, 780), span(-35, 35)), span(56, 57), api.OK},
		// It comes down from the first tick on: not at once, even where it is at the ground, or below it.
		{func(b *api.TkBox, _ *api.Span) { b.Z = only(0) }, area(span(100, 120), span(-5, 5)), only(51), api.OK},
		{func(b *api.TkBox, _ *api.Span) { b.Z = span(-far, 0) }, area(span(100, 120), span(-5, 5)), only(51), api.OK},
		{func(b *api.TkBox, _ *api.Span) { b.Z, b.VZ = only(-5), only(6) }, area(span(200, 230), span(-10, 10)), only(52), api.OK},
		{func(b *api.TkBox, _ *api.Span) { b.Z, b.VZ = only(-5), only(5) }, area(span(100, 120), span(-5, 5)), only(51), api.OK},
		// At 0 it is down.
		{func(b *api.TkBox, _ *api.Span) { b.Z = only(98) }, area(span(200, 230), span(-10, 10)), only(52), api.OK},
		{func(b *api.TkBox, _ *api.Span) { b.Z = span(98, 99) }, area(span(200, 340), span(-15, 15)), span(52, 53), api.OK},
		{func(b *api.TkBox, _ *api.Span) { b.Z = span(98, 294) }, area(span(200, 340), span(-15, 15)), span(52, 53), api.OK},
		{func(b *api.TkBox, _ *api.Span) { b.Z = span(97, 295) }, area(span(200, 450), span(-20, 20)), span(52, 54), api.OK},
		// 1000, 890, 670, 340, -100, and 1000, 910, 730, 460, 100, -350.
		{func(b *api.TkBox, g *api.Span) { *g = span(90, 110) }, area(span(500, 670), span(-30, 30)), span(55, 56), api.OK},
		// It goes to the west and to the north.
		{func(b *api.TkBox, _ *api.Span) { b.Z.Hi, b.VX, b.VY = 1500, only(-100), span(5, 6) }, area(span(-700, -590), span(30, 42)), span(56, 57), api.OK},
		// Its lowest place is at -10, and then at 50 twice, before it is down for good; all ticks from the first one on count.
		{func(b *api.TkBox, g *api.Span) {
			rest(b)
			b.Z, b.VZ, b.VX, *g = span(-130, 100), only(120), only(-7), only(60)
		}, area(span(-42, -7), only(0)), span(51, 56), api.OK},
		// At the last tick it is still told where it comes down afterwards.
		{func(b *api.TkBox, _ *api.Span) { b.At = 100000 }, area(span(600, 670), span(-30, 30)), only(100006), api.OK},
		{func(b *api.TkBox, _ *api.Span) { b.At = 0 }, area(span(600, 670), span(-30, 30)), only(6), api.OK},
		// It gets faster than what a box may have.
		{func(b *api.TkBox, g *api.Span) { rest(b); b.Z, b.VZ, *g = only(10*fast), only(-fast), only(200) }, api.Area{}, only(60), api.OK},
	})
}

// P6.2: what goes too far.
func TestFallTooFar(t *testing.T) {
	// It comes down at the second tick.
	low := func(b *api.TkBox) { *b = api.TkBox{At: 50, Z: only(98)} }
	for i := range 2 {
		for _, c := range []struct {
			place, velocity, want api.Span
			e                     api.Errno
		}{
			{only(far - 20), only(10), only(far), api.OK}, // a tick later it would be too far
			{only(far - 19), only(10), api.Span{}, api.ErrLong},
			{span(0, far-20), span(0, 10), span(0, far), api.OK},
			{span(0, far-20), span(0, 11), api.Span{}, api.ErrLong},
			{only(20 - far), only(-10), only(-far), api.OK},
			{only(19 - far), only(-10), api.Span{}, api.ErrLong},
			{span(20-far, 0), span(-10, 0), span(-far, 0), api.OK},
			{span(20-far, 0), span(-11, 0), api.Span{}, api.ErrLong},
			{span(-far, far), only(0), span(-far, far), api.OK},
			{only(far), only(1), api.Span{}, api.ErrLong},
			{only(far), only(-fast), only(far - 2*fast), api.OK},
		} {
			b := api.TkBox{}
			low(&b)
			*spansOf(&b)[i], *spansOf(&b)[i+3] = c.place, c.velocity
			a, at, e := destruct.Fall(example(), b)
			want := [2]api.Span{}
			want[i] = c.want
			if e != c.e || e != api.OK && (a != api.Area{} || at != api.Span{}) || e == api.OK && (a != area(want[0], want[1]) || at != only(52)) {
				t.Errorf("%d: Fall of %v = %v, %v, %d", i, b, a, at, e)
			}
		}
	}
	none := func(z, velocity api.Span, e api.Errno) fallCase {
		return fallCase{change: func(b *api.TkBox, g *api.Span) { *b, *g = api.TkBox{Z: z, VZ: velocity}, only(200) }, e: e}
	}
	runFalls(t, []fallCase{
		none(only(far-100), only(101), api.ErrLong), // too high at the first tick
		none(only(far-100), only(100), api.ErrDown),
		none(only(far-899), only(500), api.ErrLong), // at the third one: 500, 300 and 100 higher
		none(only(far-900), only(500), api.ErrDown),
		none(span(-far, 0), only(-1), api.ErrLong), // too low at the tick at which it comes down
		none(span(0, far), only(-fast), api.ErrLong),
		none(span(0, far), only(-fast+1), api.ErrLong),
	})
}

// P6.2: what does not come down for very long.
func TestFallTicks(t *testing.T) {
	const high = 3000 * 2999 / 2 // from here, with gravity 1, it is at the ground after 3000 ticks
	slow := func(z, velocity api.Span, a api.Area, at api.Span, e api.Errno) fallCase {
		return fallCase{func(b *api.TkBox, g *api.Span) { *b, *g = api.TkBox{At: 7, Z: z, VX: velocity}, only(1) }, a, at, e}
	}
	runFalls(t, []fallCase{
		slow(only(high), only(1), area(only(3000), only(0)), only(3007), api.OK),
		slow(only(high+1), only(1), api.Area{}, api.Span{}, api.ErrDown),
		slow(span(high-1, high), only(1), area(only(3000), only(0)), only(3007), api.OK),
		slow(span(high-2999, high), only(1), area(span(2999, 3000), only(0)), span(3006, 3007), api.OK),
		slow(span(0, high), span(0, 1), area(span(0, 3000), only(0)), span(8, 3007), api.OK),
		slow(span(high, high+1), only(1), api.Area{}, api.Span{}, api.ErrDown),
		slow(span(0, high+1), only(1), api.Area{}, api.Span{}, api.ErrDown),
		// After 3000 ticks it is not too far yet.
		slow(only(high), only(666666), area(only(1999998000), only(0)), only(3007), api.OK),
		slow(only(high+1), only(666666), api.Area{}, api.Span{}, api.ErrDown),
		// After 2999 ticks it is not too far yet, but then it is.
		slow(only(high), only(666667), api.Area{}, api.Span{}, api.ErrLong),
		slow(only(high+1), only(666667), api.Area{}, api.Span{}, api.ErrLong),
		slow(only(high-2999), only(666667), area(only(2999*666667), only(0)), only(3006), api.OK),
		slow(only(high+1), only(-666667), api.Area{}, api.Span{}, api.ErrLong),
	})
}

// P6.2: the error of a box.
func TestFallErrors(t *testing.T) {
	for _, n := range []int{-1, 100001, math.MinInt, math.MaxInt} {
		runFalls(t, []fallCase{{change: func(b *api.TkBox, _ *api.Span) { b.At = n }, e: api.ErrRange}})
	}
	for i := range 6 {
		most := far
		if i >= 3 {
			most = fast
		}
		for _, s := range []api.Span{span(1, 0), span(0, most+1), span(-most-1, 0), span(math.MinInt, math.MaxInt), span(math.MaxInt, math.MinInt)} {
			runFalls(t, []fallCase{{change: func(b *api.TkBox, _ *api.Span) { *spansOf(b)[i] = s }, e: api.ErrRange}})
		}
	}
}
