package destruct_test

import (
	"math"
	"math/rand"
	"slices"

	"hangfire/api"
	"hangfire/destruct"
)

const (
	far    = 2000000000    // a place
	fast   = 1000000       // a speed
	offset = 4000000000000 // a line
)

func span(lo, hi int) api.Span { return api.Span{Lo: lo, Hi: hi} }

func only(n int) api.Span { return span(n, n) }

func has(s api.Span, n int) bool { return s.Lo <= n && n <= s.Hi }

// lies reports whether the span a is in the span b.
func lies(a, b api.Span) bool { return b.Lo <= a.Lo && a.Hi <= b.Hi }

func area(x, y api.Span) api.Area { return api.Area{X: x, Y: y} }

// example is the plan P of the chapter's examples.
func example() api.DePlan {
	return api.DePlan{
		Lines:   []api.DeLine{{A: 1, Keep: 100000, Line: 200000}, {B: -1, Keep: 50000, Line: 80000}},
		Gravity: only(98), Wait: 2, Blind: 10,
	}
}

// dropped is the box B of the chapter's examples.
func dropped() api.TkBox {
	return api.TkBox{At: 50, X: span(0, 10), Z: only(1000), VX: span(100, 110), VY: span(-5, 5)}
}

// lone is the task T of the chapter's examples.
func lone() api.TkTask { return api.TkTask{Speed: 200000, Accel: 100} }

// tracked is a task with three exact trackers, which have a plot each at the tick 20: at 100 east of the pad and 1000 above it.
func tracked() api.TkTask {
	t := api.TkTask{From: 10, Speed: 100, Accel: 100}
	for i, name := range []string{"a", "b", "c"} {
		t.Trackers = append(t.Trackers, api.TkTracker{Name: name, Late: 5})
		t.Plots = append(t.Plots, api.TkPlot{Tracker: i, Tick: 20, X: 100, Z: 1000})
	}
	return t
}

func clonePlan(p api.DePlan) api.DePlan {
	p.Lines = slices.Clone(p.Lines)
	return p
}

func cloneTask(t api.TkTask) api.TkTask {
	t.Trackers, t.Plots = slices.Clone(t.Trackers), slices.Clone(t.Plots)
	return t
}

func samePlan(a, b api.DePlan) bool {
	return slices.Equal(a.Lines, b.Lines) && a.Gravity == b.Gravity && a.Wait == b.Wait && a.Blind == b.Blind
}

func sameTask(a, b api.TkTask) bool {
	return a.From == b.From && a.Speed == b.Speed && a.Accel == b.Accel && slices.Equal(a.Trackers, b.Trackers) && slices.Equal(a.Plots, b.Plots)
}

// spansOf returns the six spans of a box: of the place, and then of the velocity.
func spansOf(b *api.TkBox) [6]*api.Span {
	return [...]*api.Span{&b.X, &b.Y, &b.Z, &b.VX, &b.VY, &b.VZ}
}

// point is a place and a velocity.
type point [6]int

// in returns a point of a box, often a corner of it.
func in(r *rand.Rand, b api.TkBox) point {
	var p point
	for i, s := range spansOf(&b) {
		p[i] = within(r, *s)
	}
	return p
}

// within returns a number of a span, often an end of it.
func within(r *rand.Rand, s api.Span) int {
	return []int{s.Lo, s.Hi, s.Lo + r.Intn(s.Hi-s.Lo+1)}[r.Intn(3)]
}

// drop lets a point fall, with some gravity of the span in each tick, and returns after how many ticks it comes down, and where.
func drop(r *rand.Rand, p point, gravity api.Span) (int, api.Place) {
	steady := []func() int{
		func() int { return gravity.Lo },
		func() int { return gravity.Hi },
		func() int { return within(r, gravity) },
	}[r.Intn(3)]
	for n := 1; ; n++ {
		for i := range 3 {
			p[i] += p[i+3]
		}
		p[5] -= steady()
		if p[2] <= 0 {
			return n, api.Place{X: p[0], Y: p[1]}
		}
	}
}

// isBefore reports whether a place is before all lines.
func isBefore(p api.DePlan, at api.Place) bool {
	return !slices.ContainsFunc(p.Lines, func(l api.DeLine) bool { return l.A*at.X+l.B*at.Y > l.Line })
}

// ordered returns the span of two numbers.
func ordered(a, b int) api.Span { return span(min(a, b), max(a, b)) }

// around returns a number that is at most so far from 0, often as far as it can be.
func around(r *rand.Rand, far int) int {
	return []int{-far, far, 0, r.Intn(2*far+1) - far, r.Intn(2*far+1) - far}[r.Intn(5)]
}

// randomBox returns a box with numbers of a size that suits a fall.
func randomBox(r *rand.Rand) api.TkBox {
	b := api.TkBox{At: []int{0, r.Intn(200), 100000}[r.Intn(3)]}
	high, quick := 1+r.Intn(3000), 1+r.Intn(300)
	for i, s := range spansOf(&b) {
		far := high
		if i >= 3 {
			far = quick
		}
		a := around(r, far)
		*s = ordered(a, a+around(r, 1+far/[]int{1, 10}[r.Intn(2)]))
	}
	return b
}

// randomPlan returns a plan with lines whose offsets are at most so far from 0.
func randomPlan(r *rand.Rand, far int) api.DePlan {
	p := api.DePlan{Wait: r.Intn(6), Blind: r.Intn(30), Gravity: ordered(1+r.Intn(60), 1+r.Intn(60))}
	for range 1 + r.Intn(4) {
		l := api.DeLine{A: around(r, 20), B: around(r, 20), Line: around(r, far)}
		for l.A == 0 && l.B == 0 {
			l.B = around(r, 20)
		}
		l.Keep = l.Line - r.Intn(far)
		p.Lines = append(p.Lines, l)
	}
	return p
}

// path is where a flight is at the tick From of a task and at each one behind it.
type path [][3]int

// at returns the place and the velocity at a tick that is before the last one.
func (p path) at(t api.TkTask, tick int) (all point) {
	if tick < t.From {
		return all
	}
	n := tick - t.From
	for i := range 3 {
		all[i], all[i+3] = p[n][i], p[n+1][i]-p[n][i]
	}
	return all
}

// end returns the last tick at which a velocity is known.
func (p path) end(t api.TkTask) int { return t.From + len(p) - 2 }

// fly returns a path by a task, so many ticks long, but not beyond the last tick. It goes up at first.
func fly(r *rand.Rand, t api.TkTask, ticks int) path {
	p := path{{}}
	var v, turn [3]int
	for n := range min(ticks, api.MaxTick+1-t.From) {
		var next [3]int
		for i := range 3 {
			switch {
			case n < ticks/4 && i == 2:
				turn[i] = t.Accel
			case n == 0 || r.Intn(6) == 0:
				turn[i] = around(r, t.Accel)
			}
			v[i] = min(max(v[i]+turn[i], -t.Speed), t.Speed)
			next[i] = p[n][i] + v[i]
		}
		p = append(p, next)
	}
	return p
}

// randomTask returns a task whose trackers work at all their plots, but one of them, which sometimes does not, and a path by it.
func randomTask(r *rand.Rand) (api.TkTask, path) {
	t := api.TkTask{From: r.Intn(20), Speed: 1 + r.Intn(100), Accel: 1 + r.Intn(20)}
	if r.Intn(10) == 0 {
		t.From = api.MaxTick - 30 - r.Intn(40)
	}
	p := fly(r, t, 60)
	for i := range r.Intn(6) {
		t.Trackers = append(t.Trackers, api.TkTracker{Name: string(rune('a' + i)), X: around(r, 500), Y: around(r, 500), Error: r.Intn(60), Late: r.Intn(8)})
	}
	if len(t.Trackers) == 0 {
		return t, p
	}
	wrong := r.Intn(2*len(t.Trackers)) - len(t.Trackers) // in half of all cases a tracker
	for range r.Intn(api.MaxTkPlots + 1) {
		plot := api.TkPlot{Tracker: r.Intn(len(t.Trackers)), Tick: t.From + r.Intn(len(p)-1)}
		if slices.ContainsFunc(t.Plots, func(q api.TkPlot) bool { return q.Tracker == plot.Tracker && q.Tick == plot.Tick }) {
			continue
		}
		off := t.Trackers[plot.Tracker].Error
		if plot.Tracker == wrong {
			off += []int{0, 300, far / 2}[r.Intn(3)]
		}
		at := p.at(t, plot.Tick)
		plot.X, plot.Y, plot.Z = at[0]+around(r, off), at[1]+around(r, off), at[2]+around(r, off)
		t.Plots = append(t.Plots, plot)
	}
	return t, p
}

// tear gives each tracker of a task a plot at one and the same tick, apart from those of all others, so that there is no spare box near this tick, if there are more than two trackers.
func tear(t api.TkTask, p path, tick int) api.TkTask {
	t = cloneTask(t)
	t.Plots = slices.DeleteFunc(t.Plots, func(q api.TkPlot) bool { return q.Tick == tick })
	t.Plots = t.Plots[:min(len(t.Plots), api.MaxTkPlots-len(t.Trackers))]
	at := p.at(t, tick)
	for i, k := range t.Trackers {
		t.Plots = append(t.Plots, api.TkPlot{Tracker: i, Tick: tick, X: at[0], Y: at[1], Z: at[2]})
		at[2] += 2*k.Error + 2*t.Speed + 100
	}
	return t
}

// nearLines moves the lines of a plan to where it is decided, by a look at a tick, whether a flight is ended.
func nearLines(r *rand.Rand, p api.DePlan, t api.TkTask, now int) api.DePlan {
	p = clonePlan(p)
	for i := range p.Lines {
		p.Lines[i].Line = offset
	}
	look, e := destruct.Look(p, t, now)
	if e != api.OK || look.Why != 0 {
		return p
	}
	for i, s := range greatest(p, look.Area) {
		if r.Intn(3) == 0 {
			l := &p.Lines[i]
			l.Line = s + []int{0, -1, around(r, 2000), 500}[r.Intn(4)]
			l.Keep = l.Line - r.Intn(3000)
		}
	}
	return p
}

// greatest returns the greatest measure of an area by each line: it is that of a corner.
func greatest(p api.DePlan, a api.Area) []int {
	var l []int
	for _, line := range p.Lines {
		most := math.MinInt
		for _, x := range []int{a.X.Lo, a.X.Hi} {
			for _, y := range []int{a.Y.Lo, a.Y.Hi} {
				most = max(most, line.A*x+line.B*y)
			}
		}
		l = append(l, most)
	}
	return l
}

// odd returns a number that is often beyond all limits.
func odd(r *rand.Rand) int {
	return []int{math.MinInt, math.MinInt + 1, -offset - 1, -offset, -far - 1, -far, -fast - 1, -1001, -1, 0, 1, 2, 5, 201, 1001, api.MaxTick, api.MaxTick + 1, fast, fast + 1, far, far + 1, offset, offset + 1, math.MaxInt - 1, math.MaxInt, r.Intn(200), int(r.Uint64())}[r.Intn(27)]
}

// change sets some of the numbers to odd ones.
func change(r *rand.Rand, numbers ...*int) {
	for range r.Intn(3) {
		*numbers[r.Intn(len(numbers))] = odd(r)
	}
}
