package destruct_test

import (
	"math/rand"
	"slices"
	"testing"

	"hangfire/api"
	"hangfire/destruct"
	"hangfire/track"
)

// This file reads the definitions a second time: with sums instead of ticks, place by place, and tick by tick.

// fallen returns where a body is after n ticks.
func fallen(p api.DePlan, b api.TkBox, n int) (x, y, z api.Span) {
	moved := func(s, v api.Span) api.Span { return span(s.Lo+n*v.Lo, s.Hi+n*v.Hi) }
	sum := n * (n - 1) / 2
	x, y, z = moved(b.X, b.VX), moved(b.Y, b.VY), moved(b.Z, b.VZ)
	return x, y, span(z.Lo-sum*p.Gravity.Hi, z.Hi-sum*p.Gravity.Lo)
}

// fallOf returns what the definitions say of a fall.
func fallOf(p api.DePlan, b api.TkBox) (a api.Area, at api.Span, e api.Errno) {
	first, last := 0, 0
	for n := 3000; n >= 1; n-- {
		_, _, z := fallen(p, b, n)
		if z.Lo <= 0 {
			first = n
		}
		if z.Hi <= 0 {
			last = n
		}
	}
	end := last
	if last == 0 {
		end = 3000
	}
	for n := 1; n <= end; n++ {
		x, y, z := fallen(p, b, n)
		if min(x.Lo, y.Lo, z.Lo) < -far || max(x.Hi, y.Hi, z.Hi) > far {
			return a, at, api.ErrLong
		}
	}
	if last == 0 {
		return a, at, api.ErrDown
	}
	var numbers [4][]int
	for n := first; n <= last; n++ {
		x, y, _ := fallen(p, b, n)
		for i, k := range []int{x.Lo, x.Hi, y.Lo, y.Hi} {
			numbers[i] = append(numbers[i], k)
		}
	}
	a.X, a.Y = span(slices.Min(numbers[0]), slices.Max(numbers[1])), span(slices.Min(numbers[2]), slices.Max(numbers[3]))
	return a, span(b.At+first, b.At+last), api.OK
}

// P6.2
func TestFallAsDefined(t *testing.T) {
	r := rand.New(rand.NewSource(62))
	count := map[api.Errno]int{}
	rising := 0
	for range 6000 {
		p, b := randomPlan(r, 5000), randomBox(r)
		switch r.Intn(4) {
		case 0: // it comes down very late, or never
			p.Gravity = ordered(1+r.Intn(2), 1+r.Intn(2))
			b.Z.Hi, b.VZ.Hi = b.Z.Hi+r.Intn(2000000), b.VZ.Hi+r.Intn(2000)
		case 1: // its lowest place is down at once, and rises again
			b.Z.Lo, b.VZ.Lo = -100, p.Gravity.Hi+r.Intn(50)
			b.VZ.Hi = max(b.VZ.Lo, b.VZ.Hi)
			b.Z.Hi = max(b.Z.Lo, b.Z.Hi)
		case 2: // it goes far
			s := spansOf(&b)[r.Intn(3)]
			*s = ordered(s.Lo, []int{far, -far}[r.Intn(2)]+around(r, 3000))
			s.Lo, s.Hi = max(s.Lo, -far), min(s.Hi, far)
			b.VZ.Lo = -r.Intn(fast)
			b.VZ.Hi = b.VZ.Lo + r.Intn(2)*r.Intn(1000)
		}
		want, ticks, f := fallOf(p, b)
		a, at, e := destruct.Fall(p, b)
		if a != want || at != ticks || e != f {
			t.Fatalf("Fall of %v = %v, %v, %d, and not %v, %v, %d of %v", b, a, at, e, want, ticks, f, p)
		}
		count[e]++
		if _, _, z := fallen(p, b, 2); e == api.OK && at.Lo == b.At+1 && z.Lo > 0 {
			rising++
		}
	}
	if count[api.OK] < 2000 || count[api.ErrLong] < 300 || count[api.ErrDown] < 300 || rising < 50 {
		t.Errorf("%v, %d rise again", count, rising)
	}
}

// sides returns, place by place, the least and the greatest measure of an area by a line.
func sides(l api.DeLine, a api.Area) api.Span {
	var all []int
	for x := a.X.Lo; x <= a.X.Hi; x++ {
		for y := a.Y.Lo; y <= a.Y.Hi; y++ {
			all = append(all, l.A*x+l.B*y)
		}
	}
	return span(slices.Min(all), slices.Max(all))
}

// P6.3
func TestLinesAsDefined(t *testing.T) {
	r := rand.New(rand.NewSource(63))
	kept, several := 0, 0
	beyond := map[int]int{}
	for range 5000 {
		p := randomPlan(r, 300)
		x, y := around(r, 20), around(r, 20)
		a := area(ordered(x, x+around(r, 6)), ordered(y, y+around(r, 6)))
		var side []int
		keeps, sure := true, -1
		for i, l := range p.Lines {
			s := sides(l, a)
			side = append(side, l.Line-s.Hi)
			keeps = keeps && s.Hi <= l.Keep
			if s.Lo > l.Line && sure < 0 {
				sure = i
			}
		}
		got, e := destruct.Side(p, a)
		is, f := destruct.Keeps(p, a)
		all, line, g := destruct.Sure(p, a)
		if !slices.Equal(got, side) || is != keeps || all != (sure >= 0) || line != sure || e != api.OK || f != api.OK || g != api.OK {
			t.Fatalf("Side = %v, %d; Keeps = %t, %d; Sure = %t, %d, %d of %v by %v", got, e, is, f, all, line, g, a, p)
		}
		if keeps {
			kept++
		}
		beyond[sure]++
		if slices.Min(side) < 0 && sure < 0 {
			several++
		}
	}
	if kept < 300 || beyond[-1] < 300 || beyond[0] < 300 || beyond[2] < 100 || several < 300 {
		t.Errorf("%d are kept, beyond %v, %d in part", kept, beyond, several)
	}
}

// usedOf returns what the definitions say of the box that is used, and whether there is one.
func usedOf(p api.DePlan, t api.TkTask, now int) (b api.TkBox, from int, ok bool) {
	from = -1
	for tick := max(now-p.Blind, 0); tick <= now; tick++ {
		if s, e := track.Spare(t, tick, now); e == api.OK {
			b, from = s, tick
		}
	}
	if from < 0 || now+p.Wait+1 > 100000 {
		return api.TkBox{}, 0, false
	}
	b, e := track.Ahead(t, b, now-from+p.Wait+1)
	if e != api.OK {
		return api.TkBox{}, 0, false
	}
	return b, from, true
}

// lookOf returns what the definitions say of a look.
func lookOf(p api.DePlan, t api.TkTask, now int) api.DeLook {
	b, _, ok := usedOf(p, t, now)
	if !ok {
		return api.DeLook{Why: 2, Line: -1}
	}
	a, at, e := fallOf(p, b)
	if e != api.OK {
		return api.DeLook{Box: b, Why: 3, Line: -1}
	}
	for i, s := range greatest(p, a) {
		if s > p.Lines[i].Line {
			return api.DeLook{Box: b, Area: a, At: at, Why: 1, Line: i}
		}
	}
	return api.DeLook{Box: b, Area: a, At: at, Line: -1}
}

// tornTask returns a task that begins early, and a tick; in half of all cases there sometimes is no spare box near this tick.
func tornTask(r *rand.Rand) (api.TkTask, int) {
	t, p := randomTask(r)
	for t.From > 20 || len(t.Trackers) == 1 {
		t, p = randomTask(r)
	}
	tick := t.From + r.Intn(50)
	if r.Intn(2) == 0 {
		t = tear(t, p, tick)
	}
	return t, tick
}

// P6.4, P6.5
func TestLooksAsDefined(t *testing.T) {
	r := rand.New(rand.NewSource(64))
	why, older := map[int]int{}, 0
	for range 1200 {
		x, now := tornTask(r)
		now += r.Intn(20)
		p := nearLines(r, randomPlan(r, 50000), x, now)
		if r.Intn(10) == 0 {
			p.Gravity = span(1, 1+r.Intn(2)) // sometimes it stays up
			x.Speed, x.Accel = 3000, 300
		}
		want, from, ok := usedOf(p, x, now)
		b, tick, e := destruct.Used(p, x, now)
		if b != want || tick != from || (e == api.OK) != ok || !ok && e != api.ErrDown {
			t.Fatalf("Used at %d = %v, %d, %d, and not %v, %d, %t of %v, %v", now, b, tick, e, want, from, ok, p, x)
		}
		look := lookOf(p, x, now)
		if l, e := destruct.Look(p, x, now); l != look || e != api.OK {
			t.Fatalf("Look at %d = %v, %d, and not %v of %v, %v", now, l, e, look, p, x)
		}
		why[look.Why]++
		if ok && from < now {
			older++
		}
	}
	if why[0] < 200 || why[1] < 200 || why[2] < 100 || why[3] < 50 || older < 25 {
		t.Errorf("%v, %d boxes are older ones", why, older)
	}
}

// P6.5
func TestDecideAsDefined(t *testing.T) {
	r := rand.New(rand.NewSource(65))
	why, later, older := map[int]int{}, 0, 0
	for range 300 {
		x, last := tornTask(r)
		last += r.Intn(20)
		first := max(last-r.Intn(40), 0)
		p := nearLines(r, randomPlan(r, 50000), x, first+r.Intn(last-first+1))
		want := api.DeEnd{Tick: -1, Line: -1}
		for now := last; now >= first; now-- {
			if l := lookOf(p, x, now); l.Why != 0 {
				want = api.DeEnd{Tick: now, Why: l.Why, Line: l.Line}
			}
		}
		got, e := destruct.Decide(p, x, first, last)
		if got != want || e != api.OK {
			t.Fatalf("Decide from %d to %d = %v, %d, and not %v of %v, %v", first, last, got, e, want, p, x)
		}
		why[want.Why]++
		if want.Tick > first {
			later++
		}
		for now := first; now <= last && now != want.Tick; now++ { // all of these have a box that is used
			if _, from, _ := destruct.Used(p, x, now); from < now {
				older++
				break
			}
		}
	}
	if why[0] < 50 || why[1] < 50 || why[2] < 30 || later < 50 || older < 5 {
		t.Errorf("%v, %d at a later tick, %d with older boxes", why, later, older)
	}
}
