package aim_test

import (
	"math/rand"
	"slices"

	"hangfire/api"
)

func span(lo, hi int) api.Span { return api.Span{Lo: lo, Hi: hi} }

func only(n int) api.Span { return span(n, n) }

func area(x, y api.Span) api.Area { return api.Area{X: x, Y: y} }

func band(from, to int, x, y api.Span) api.WnBand {
	return api.WnBand{From: from, To: to, X: x, Y: y}
}

func weight(from, to, lo, hi int) api.AmBand {
	return api.AmBand{From: from, To: to, K: span(lo, hi)}
}

// point is a setting whose area is one place.
func point(x, y, scale int) api.AmSetting {
	return api.AmSetting{Area: area(only(x), only(y)), Scale: scale}
}

// lies reports whether the span a is in the span b.
func lies(a, b api.Span) bool { return b.Lo <= a.Lo && a.Hi <= b.Hi }

func liesArea(a, b api.Area) bool { return lies(a.X, b.X) && lies(a.Y, b.Y) }

// example is the task T of the chapter's examples.
func example() api.AmTask {
	return api.AmTask{
		Response: []api.AmBand{weight(0, 200000, 2000, 3000), weight(200000, 1000000, -500, -400)},
		Settings: []api.AmSetting{
			{Area: area(span(10000, 20000), span(-5000, 5000)), Scale: 1000},
			{Area: area(span(6000, 16000), span(-5000, 5000)), Scale: 1500},
			{Area: area(span(9000, 19000), span(-5000, 5000)), Scale: 1000},
		},
		Target: api.Place{X: 15000}, Allowed: area(span(5000, 25000), span(-10000, 10000)),
		Gain: 10, Turn: 50, Freeze: 200,
	}
}

// exampleBands are the bands L of the chapter's examples.
func exampleBands() []api.WnBand {
	return []api.WnBand{
		band(0, 200000, span(600, 780), span(-150, 80)),
		band(200000, 1000000, span(640, 740), span(-110, 240)),
	}
}

// exampleWinds is the task W of the chapter's examples.
func exampleWinds() api.WnTask {
	return api.WnTask{
		Sources: []api.WnSource{
			{Name: "mast", Kind: api.WnTower, Error: 50, Late: 0, Life: 6000, Low: 0, High: 300000},
			{Name: "blue", Kind: api.WnBalloon, Error: 100, Late: 600, Life: 12000, Low: 0, High: 30000000},
			{Name: "beam", Kind: api.WnLidar, Error: 80, Late: 100, Life: 3000, Low: 50000, High: 2000000},
		},
		Soundings: []api.WnSounding{
			{Source: 0, Tick: 1000, Height: 100000, X: 450, Y: 0},
			{Source: 1, Tick: 1000, Height: 100000, X: 600, Y: -100},
			{Source: 1, Tick: 1600, Height: 600000, X: 850, Y: 100},
			{Source: 2, Tick: 2000, Height: 300000, X: 760, Y: 0},
		},
		Cuts: []int{200000, 1000000}, Age: 30, Shear: 20,
	}
}

func clone(t api.AmTask) api.AmTask {
	t.Response, t.Settings = slices.Clone(t.Response), slices.Clone(t.Settings)
	return t
}

func same(a, b api.AmTask) bool {
	return slices.Equal(a.Response, b.Response) && slices.Equal(a.Settings, b.Settings) && a.Target == b.Target && a.Allowed == b.Allowed && a.Gain == b.Gain && a.Turn == b.Turn && a.Freeze == b.Freeze
}

func cloneWinds(t api.WnTask) api.WnTask {
	t.Sources, t.Soundings, t.Cuts = slices.Clone(t.Sources), slices.Clone(t.Soundings), slices.Clone(t.Cuts)
	return t
}

func sameWinds(a, b api.WnTask) bool {
	return slices.Equal(a.Sources, b.Sources) && slices.Equal(a.Soundings, b.Soundings) && slices.Equal(a.Cuts, b.Cuts) && a.Age == b.Age && a.Shear == b.Shear
}

func cloneChoice(c api.AmChoice) api.AmChoice {
	c.Others = slices.Clone(c.Others)
	return c
}

func sameChoice(a, b api.AmChoice) bool {
	return a.Setting == b.Setting && a.Miss == b.Miss && slices.Equal(a.Others, b.Others)
}

// task is what a choice needs.
type task struct {
	t api.AmTask
	l []api.WnBand
}

func (x task) clone() task { return task{clone(x.t), slices.Clone(x.l)} }

// about returns a span of up to so many numbers beside n, that has n.
func about(r *rand.Rand, n, wide int) api.Span {
	return span(n-r.Intn(wide+1), n+r.Intn(wide+1))
}

// beside returns a number that is at most so far from 0.
func beside(r *rand.Rand, far int) int { return r.Intn(2*far+1) - far }

// pick returns a number of a span, often an end.
func pick(r *rand.Rand, s api.Span) int {
	return []int{s.Lo, s.Hi, s.Lo + r.Intn(s.Hi-s.Lo+1)}[r.Intn(3)]
}

const top = 1000 // random weights and winds end below it, so that both often meet at a height

// cuts returns some heights, ascending, the first one above 0.
func cuts(r *rand.Rand) []int {
	var l []int
	for range 1 + r.Intn(5) {
		l = append(l, 10*(1+r.Intn(top/10-1)))
	}
	slices.Sort(l)
	return slices.Compact(l)
}

func randomBands(r *rand.Rand, wide int) []api.WnBand {
	var l []api.WnBand
	from := 0
	for _, to := range append(cuts(r), top) {
		l = append(l, band(from, to, about(r, beside(r, 300), wide), about(r, beside(r, 300), wide)))
		from = to
	}
	return l
}

// randomTask returns a task some of whose settings are mostly allowed by its bands, in places so small that misses are often the same.
func randomTask(r *rand.Rand) task {
	x := task{l: randomBands(r, 30)}
	from := 0
	for _, to := range cuts(r) {
		k := about(r, beside(r, 6000), r.Intn(600))
		x.t.Response = append(x.t.Response, weight(from, to, k.Lo, k.Hi))
		from = to
	}
	for range 1 + r.Intn(6) {
		x.t.Settings = append(x.t.Settings, api.AmSetting{
			Area:  area(about(r, beside(r, 3000), 2000), about(r, beside(r, 3000), 2000)),
			Scale: []int{0, 1000, 2000, r.Intn(2001)}[r.Intn(4)],
		})
	}
	x.t.Target = api.Place{X: beside(r, 2000), Y: beside(r, 2000)}
	x.t.Allowed = area(about(r, 0, 15000), about(r, 0, 15000))
	x.t.Gain, x.t.Turn, x.t.Freeze = r.Intn(30), r.Intn(300), r.Intn(300)
	return x
}

const endTick = 3000 // the random ticks are below it

// randomWinds returns soundings of a wind that is never far from 0, often of sources that contradict each other.
func randomWinds(r *rand.Rand) api.WnTask {
	w := api.WnTask{Age: r.Intn(10), Shear: r.Intn(10), Cuts: []int{top}}
	if l := cuts(r); r.Intn(2) == 0 {
		w.Cuts = append(l, top)
	}
	for i := range 1 + r.Intn(3) {
		w.Sources = append(w.Sources, api.WnSource{
			Name: string(rune('a'+i)) + "-1", Kind: api.WnTower, Error: r.Intn(100), Late: r.Intn(200), Life: 1 + r.Intn(2000), High: top,
		})
	}
	for i := range r.Intn(30) {
		w.Soundings = append(w.Soundings, api.WnSounding{
			Source: r.Intn(len(w.Sources)), Tick: r.Intn(endTick), Height: i, X: beside(r, 100), Y: beside(r, 100),
		})
	}
	return w
}

// randomNows returns some ticks up to that of a launch, ascending.
func randomNows(r *rand.Rand, launch int) []int {
	var l []int
	for range r.Intn(12) {
		l = append(l, r.Intn(launch+1))
	}
	slices.Sort(l)
	return l
}
