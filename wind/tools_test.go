package wind_test

import (
	"math/rand"
	"slices"

	"hangfire/api"
)

// example is the task T of the chapter's examples.
func example() api.WnTask {
	return api.WnTask{
		Sources: []api.WnSource{
			{Name: "mast", Kind: api.WnTower, Error: 50, Late: 0, Life: 6000, Low: 0, High: 300000},
			{Name: "blue", Kind: api.WnBalloon, Error: 100, Late: 600, Life: 12000, Low: 0, High: 30000000},
			{Name: "beam", Kind: api.WnLidar, Error: 80, Late: 100, Life: 3000, Low: 50000, High: 2000000},
		},
		Soundings: []api.WnSounding{
			{Source: 0, Tick: 1000, Height: 100000, X: 450, Y: 0},
			{Source: 1, Tick: 1000, Height: 100000, X: 600, Y: -100},
			{Source: 1, Tick: 1600, Height: 600000, X: 850, Y: 100},
			{Source: 2, Tick: 2000, Height: 300000, X: 760, Y: 0},
		},
		Cuts: []int{200000, 1000000}, Age: 30, Shear: 20,
	}
}

func span(lo, hi int) api.Span { return api.Span{Lo: lo, Hi: hi} }

func band(from, to int, x, y api.Span) api.WnBand {
	return api.WnBand{From: from, To: to, X: x, Y: y}
}

var none = api.Span{}

// whole is all parts of a wind.
var whole = span(-api.MaxWnWind, api.MaxWnWind)

// lies reports whether the span a is in the span b.
func lies(a, b api.Span) bool { return b.Lo <= a.Lo && a.Hi <= b.Hi }

func has(s api.Span, n int) bool { return s.Lo <= n && n <= s.Hi }

func clone(t api.WnTask) api.WnTask {
	t.Sources, t.Soundings, t.Cuts = slices.Clone(t.Sources), slices.Clone(t.Soundings), slices.Clone(t.Cuts)
	return t
}

func same(a, b api.WnTask) bool {
	return slices.Equal(a.Sources, b.Sources) && slices.Equal(a.Soundings, b.Soundings) && slices.Equal(a.Cuts, b.Cuts) && a.Age == b.Age && a.Shear == b.Shear
}

// only returns the task with the chosen soundings alone.
func only(t api.WnTask, chosen []int) api.WnTask {
	var l []api.WnSounding
	for _, i := range chosen {
		l = append(l, t.Soundings[i])
	}
	t.Soundings = l
	return t
}

// at returns the task with a band, of index i, that has one height alone.
func at(t api.WnTask, height int) (u api.WnTask, i int) {
	u = clone(t)
	if height == 0 {
		u.Cuts = []int{1}
		return u, 0
	}
	u.Cuts = []int{height, height + 1}
	return u, 1
}

const (
	endTick   = 9000    // the random ticks are below it
	endHeight = 1000000 // the random heights are below it
)

// truth is a wind that changes by at most Age in each minute and by at most Shear in each step of height: it jumps at some of them.
type truth struct {
	base          [2]int
	times, levels [2][]int
}

// walk returns n numbers, each beside the one before it by at most step, and often by just that.
func walk(r *rand.Rand, n, step int) []int {
	l := make([]int, n)
	for i := 1; i < n; i++ {
		l[i] = l[i-1] + step*(r.Intn(3)-1)
	}
	return l
}

func randomTruth(r *rand.Rand, age, shear int) truth {
	var w truth
	for i := range 2 {
		w.base[i] = []int{-api.MaxWnWind, api.MaxWnWind, 0, r.Intn(2000) - 1000}[r.Intn(4)]
		w.times[i] = walk(r, endTick/api.WnMinute+1, age)
		w.levels[i] = walk(r, endHeight/api.WnStep+1, shear)
	}
	return w
}

func clamp(n int) int { return min(max(n, -api.MaxWnWind), api.MaxWnWind) }

// wind returns the part i (0: X, 1: Y) of the true wind.
func (w truth) wind(i, tick, height int) int {
	return clamp(w.base[i] + w.times[i][tick/api.WnMinute] + w.levels[i][height/api.WnStep])
}

// measure returns a sounding of the true wind that is wrong by at most the error of its source, and often by just that.
func (w truth) measure(r *rand.Rand, t api.WnTask, source, tick, height int) api.WnSounding {
	s := api.WnSounding{Source: source, Tick: tick, Height: height}
	e := t.Sources[source].Error
	wrong := func() int { return []int{-e, e, r.Intn(2*e+1) - e}[r.Intn(3)] }
	s.X, s.Y = clamp(w.wind(0, tick, height)+wrong()), clamp(w.wind(1, tick, height)+wrong())
	return s
}

func randomSource(r *rand.Rand, i int) api.WnSource {
	low := r.Intn(endHeight / 2)
	return api.WnSource{
		Name: string(rune('a'+i)) + "-1", Kind: 1 + r.Intn(3), Error: r.Intn(200), Late: r.Intn(600), Life: 1 + r.Intn(6000),
		Low: low, High: low + r.Intn(endHeight/2),
	}
}

// randomTask returns a task whose soundings are of the true wind that it also returns.
func randomTask(r *rand.Rand) (api.WnTask, truth) {
	t := api.WnTask{Age: r.Intn(60), Shear: r.Intn(60)}
	w := randomTruth(r, t.Age, t.Shear)
	for i := range 1 + r.Intn(api.MaxWnSources) {
		t.Sources = append(t.Sources, randomSource(r, i))
	}
	type key struct{ source, tick, height int }
	seen := map[key]bool{}
	last := map[int]key{}
	for range r.Intn(25) {
		i := r.Intn(len(t.Sources))
		s := t.Sources[i]
		k := key{i, r.Intn(endTick), s.Low + r.Intn(s.High-s.Low+1)}
		before, some := last[i]
		if seen[k] || s.Kind == api.WnBalloon && some && (k.tick < before.tick || k.height < before.height) {
			continue
		}
		seen[k], last[i] = true, k
		t.Soundings = append(t.Soundings, w.measure(r, t, i, k.tick, k.height))
	}
	for range 1 + r.Intn(5) {
		t.Cuts = append(t.Cuts, 1+r.Intn(endHeight-1))
	}
	slices.Sort(t.Cuts)
	t.Cuts = slices.Compact(t.Cuts)
	return t, w
}

// spoil gives arbitrary winds to the soundings of a source.
func spoil(r *rand.Rand, t api.WnTask, source int) api.WnTask {
	t = clone(t)
	away := r.Intn(2000) - 1000
	for i, s := range t.Soundings {
		if s.Source == source {
			t.Soundings[i].X = clamp(s.X + away)
			t.Soundings[i].Y = clamp(s.Y + r.Intn(2000) - 1000)
		}
	}
	return t
}

// randomBands returns bands that are as stated.
func randomBands(r *rand.Rand) []api.WnBand {
	var l []api.WnBand
	from := 0
	for range 1 + r.Intn(5) {
		to := from + 1 + r.Intn(20)
		l = append(l, band(from, to, randomSpan(r), randomSpan(r)))
		from = to
	}
	return l
}

func randomSpan(r *rand.Rand) api.Span {
	lo := r.Intn(100) - 50
	return span(lo, lo+r.Intn(50))
}
