package track_test

import (
	"math"
	"math/rand"
	"slices"

	"hangfire/api"
)

func span(lo, hi int) api.Span { return api.Span{Lo: lo, Hi: hi} }

func has(s api.Span, n int) bool { return s.Lo <= n && n <= s.Hi }

// lies reports whether the span a is in the span b.
func lies(a, b api.Span) bool { return b.Lo <= a.Lo && a.Hi <= b.Hi }

// example is the task T of the chapter's examples.
func example() api.TkTask {
	return api.TkTask{
		From: 100, Speed: 1000, Accel: 50,
		Trackers: []api.TkTracker{
			{Name: "east", X: 3000000, Error: 2000, Grow: 500, Late: 5},
			{Name: "west", X: -500000, Error: 3000, Grow: 1000},
			{Name: "gps", Error: 800, Late: 20},
		},
		Plots: []api.TkPlot{
			{Tracker: 0, Tick: 120, Z: 10000},
			{Tracker: 1, Tick: 120, X: 1000, Z: 8000},
			{Tracker: 2, Tick: 120, X: 200, Y: 100, Z: 9500},
			{Tracker: 2, Tick: 130, X: 300, Y: 200, Z: 19000},
		},
	}
}

// slow is a task without trackers.
func slow() api.TkTask { return api.TkTask{From: 100, Speed: 20, Accel: 3} }

// with returns a task with exact trackers a, b and so on, one for each list of plots.
func with(t api.TkTask, l ...[]api.TkPlot) api.TkTask {
	for i, plots := range l {
		t.Trackers = append(t.Trackers, api.TkTracker{Name: string(rune('a' + i))})
		for _, p := range plots {
			p.Tracker = i
			t.Plots = append(t.Plots, p)
		}
	}
	return t
}

func clone(t api.TkTask) api.TkTask {
	t.Trackers, t.Plots = slices.Clone(t.Trackers), slices.Clone(t.Plots)
	return t
}

func same(a, b api.TkTask) bool {
	return a.From == b.From && a.Speed == b.Speed && a.Accel == b.Accel && slices.Equal(a.Trackers, b.Trackers) && slices.Equal(a.Plots, b.Plots)
}

// spansOf returns the six spans of a box: of the place, and then of the velocity.
func spansOf(b *api.TkBox) [6]*api.Span {
	return [...]*api.Span{&b.X, &b.Y, &b.Z, &b.VX, &b.VY, &b.VZ}
}

// liesBox reports whether the box a is in the box b, at the same tick.
func liesBox(a, b api.TkBox) bool {
	l, m := spansOf(&a), spansOf(&b)
	for i := range l {
		if !lies(*l[i], *m[i]) {
			return false
		}
	}
	return a.At == b.At
}

// path is where a flight is at the tick From and at each one behind it.
type path [][3]int

// at returns the place and the velocity at a tick.
func (p path) at(t api.TkTask, tick int) (place, velocity [3]int) {
	if tick < t.From {
		return place, velocity
	}
	for i := range 3 {
		place[i] = p[tick-t.From][i]
		velocity[i] = p[tick-t.From+1][i] - place[i]
	}
	return place, velocity
}

// in reports whether the place and the velocity at a tick are in a box.
func (p path) in(t api.TkTask, b api.TkBox) bool {
	place, velocity := p.at(t, b.At)
	l := spansOf(&b)
	for i := range 3 {
		if !has(*l[i], place[i]) || !has(*l[i+3], velocity[i]) {
			return false
		}
	}
	return true
}

// end returns the last tick at which a velocity is known.
func (p path) end(t api.TkTask) int { return t.From + len(p) - 2 }

// clip returns the number of a span that is nearest to another one.
func clip(n, lo, hi int) int { return min(max(n, lo), hi) }

// beside returns a number that is at most so far from 0, often as far as it can be.
func beside(r *rand.Rand, far int) int {
	return []int{-far, far, 0, r.Intn(2*far+1) - far, r.Intn(2*far+1) - far}[r.Intn(5)]
}

// fly returns a path by a task, so many ticks long, but not beyond the last tick. It often goes as fast, and turns as sharply, as it can.
func fly(r *rand.Rand, t api.TkTask, ticks int) path {
	ticks = min(ticks, api.MaxTick+1-t.From)
	p := path{{}}
	var v, turn [3]int
	for n := range ticks {
		var next [3]int
		for i := range 3 {
			if n == 0 || r.Intn(6) == 0 {
				turn[i] = beside(r, t.Accel)
			}
			v[i] = clip(v[i]+turn[i], -t.Speed, t.Speed)
			next[i] = p[n][i] + v[i]
		}
		p = append(p, next)
	}
	return p
}

// widthOf returns the width of a plot, kilometre by kilometre.
func widthOf(by api.TkTracker, p api.TkPlot) int {
	n := by.Error
	for _, d := range []int{p.X - by.X, p.Y - by.Y, p.Z} {
		w := by.Error
		for far := max(d, -d); far > 0; far -= 1000000 {
			w += by.Grow
		}
		n = max(n, w)
	}
	return n
}

// works reports whether a tracker works at a plot of it.
func works(t api.TkTask, p path, plot api.TkPlot) bool {
	place, _ := p.at(t, plot.Tick)
	w := widthOf(t.Trackers[plot.Tracker], plot)
	for i, n := range []int{plot.X, plot.Y, plot.Z} {
		if d := n - place[i]; d > w || -d > w {
			return false
		}
	}
	return true
}

// scale is how large the numbers of a random task are.
type scale struct{ from, speed, accel, away, err, grow, late, ticks, plots int }

// small is a scale at which all numbers can be gone through.
var small = scale{from: 30, speed: 12, accel: 4, away: 200, err: 12, grow: 9, late: 12, ticks: 22, plots: 9}

// large is one at which distances matter.
var large = scale{from: 3000, speed: 40000, accel: 9000, away: 3000000, err: 60000, grow: 10001, late: 30, ticks: 60, plots: 30}

// randomTask returns a task whose trackers work at all their plots, and a path by it. Some of them end at the last tick.
func randomTask(r *rand.Rand, s scale) (api.TkTask, path) {
	t := api.TkTask{From: r.Intn(s.from), Speed: 1 + r.Intn(s.speed), Accel: 1 + r.Intn(s.accel)}
	switch r.Intn(8) {
	case 0:
		t.From = 0
	case 1:
		t.From = api.MaxTick - r.Intn(s.ticks)
	}
	p := fly(r, t, s.ticks)
	for i := range r.Intn(6) {
		t.Trackers = append(t.Trackers, api.TkTracker{
			Name: "a" + string(rune('0'+i)), X: beside(r, s.away), Y: beside(r, s.away),
			Error: r.Intn(s.err), Grow: r.Intn(s.grow) * r.Intn(2), Late: r.Intn(s.late),
		})
	}
	if len(t.Trackers) > 0 {
		for range r.Intn(s.plots + 1) {
			add(r, &t, p, r.Intn(len(t.Trackers)))
		}
	}
	return t, p
}

// add gives a task a further plot of a tracker, at which it works, if there is room for one.
func add(r *rand.Rand, t *api.TkTask, p path, tracker int) bool {
	by := t.Trackers[tracker]
	plot := api.TkPlot{Tracker: tracker, Tick: t.From + r.Intn(len(p)-1)}
	if len(t.Plots) == api.MaxTkPlots || slices.ContainsFunc(t.Plots, func(q api.TkPlot) bool { return q.Tracker == tracker && q.Tick == plot.Tick }) {
		return false
	}
	place, _ := p.at(*t, plot.Tick)
	for far := widthOf(by, api.TkPlot{X: place[0], Y: place[1], Z: place[2]}); ; far = by.Error {
		plot.X, plot.Y, plot.Z = place[0]+beside(r, far), place[1]+beside(r, far), place[2]+beside(r, far)
		if works(*t, p, plot) {
			t.Plots = append(t.Plots, plot)
			return true
		}
	}
}

// spoil returns a task in which a tracker does not work at some of its plots.
func spoil(r *rand.Rand, t api.TkTask, s scale, tracker int) api.TkTask {
	t = clone(t)
	for i := range t.Plots {
		if q := &t.Plots[i]; q.Tracker == tracker && r.Intn(4) > 0 {
			far := []int{3 * s.err, s.speed * s.ticks, api.MaxPlace / 2}[r.Intn(3)]
			q.X, q.Y, q.Z = q.X+beside(r, far), q.Y+beside(r, far), q.Z+beside(r, far)
		}
	}
	return t
}

// tickOf returns a tick at which a path is, or one before it.
func tickOf(r *rand.Rand, t api.TkTask, p path) int {
	return max(t.From-3+r.Intn(p.end(t)-t.From+4), 0)
}

// nowOf returns a tick at which some, or all, plots are known.
func nowOf(r *rand.Rand, t api.TkTask, s scale) int {
	return min(t.From+r.Intn(2*(s.ticks+s.late)), api.MaxTick)
}

// odd returns a number that is often beyond all limits.
func odd(r *rand.Rand) int {
	return []int{math.MinInt, math.MinInt + 1, -api.MaxPlace - 1, -api.MaxPlace, -api.MaxSpeed - 1, -1, 0, 1, 2, 5, api.MaxTkLate, api.MaxTick, api.MaxTick + 1, api.MaxSpeed, api.MaxSpeed + 1, api.MaxPlace, api.MaxPlace + 1, math.MaxInt - 1, math.MaxInt, r.Intn(200), int(r.Uint64())}[r.Intn(21)]
}

// change sets some of the numbers to odd ones.
func change(r *rand.Rand, numbers ...*int) {
	for range r.Intn(3) {
		*numbers[r.Intn(len(numbers))] = odd(r)
	}
}
