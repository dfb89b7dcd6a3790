package track_test

import (
	"math/rand"
	"slices"
	"testing"

	"hangfire/api"
	"hangfire/track"
)

// This file reads the definitions a second time: number by number.

func size(n int) int { return max(n, -n) }

// reachOf returns the reach of n ticks.
func reachOf(t api.TkTask, n int) int {
	sum := 0
	for j := 1; j <= n; j++ {
		sum += min(t.Accel*j, t.Speed)
	}
	return sum
}

// reading is a task by some of its plots, with the places that have been found.
type reading struct {
	t      api.TkTask
	plots  []api.TkPlot
	places map[[2]int][]int
}

// read returns the reading by the plots that are known at now, of the trackers that are asked for.
func read(t api.TkTask, now int, asked func(tracker int) bool) reading {
	x := reading{t: t, places: map[[2]int][]int{}}
	for _, p := range t.Plots {
		if p.Tick+t.Trackers[p.Tracker].Late <= now && asked(p.Tracker) {
			x.plots = append(x.plots, p)
		}
	}
	return x
}

// partOf returns a part of a plot.
func partOf(p api.TkPlot, part int) int { return [...]int{p.X, p.Y, p.Z}[part] }

// placesAt returns all numbers for the place at a tick.
func (x reading) placesAt(part, u int) []int {
	key := [2]int{part, u}
	if l, ok := x.places[key]; ok {
		return l
	}
	if u <= x.t.From {
		return []int{0}
	}
	var l []int
	most := reachOf(x.t, u-x.t.From)
	for n := -most; n <= most; n++ {
		if !slices.ContainsFunc(x.plots, func(p api.TkPlot) bool {
			return size(n-partOf(p, part)) > widthOf(x.t.Trackers[p.Tracker], p)+size(u-p.Tick)*x.t.Speed
		}) {
			l = append(l, n)
		}
	}
	x.places[key] = l
	return l
}

// velocitiesAt returns all numbers for the velocity at a tick, and whether there is a place at all ticks that are named.
func (x reading) velocitiesAt(part, u int) (l []int, ok bool) {
	if u < x.t.From {
		return []int{0}, true
	}
	type limit struct{ k, lo, hi int }
	var limits []limit
	here := x.placesAt(part, u)
	if len(here) == 0 {
		return nil, false
	}
	a, b := here[0], here[len(here)-1]
	for k := 1; k <= 8; k++ {
		if u-k >= x.t.From {
			m := x.placesAt(part, u-k)
			if len(m) == 0 {
				return nil, false
			}
			c, d := m[0], m[len(m)-1]
			limits = append(limits, limit{k, a - d - x.t.Accel*k*(k+1)/2, b - c + x.t.Accel*k*(k+1)/2})
		}
		if u+k <= 100000 {
			m := x.placesAt(part, u+k)
			if len(m) == 0 {
				return nil, false
			}
			c, d := m[0], m[len(m)-1]
			limits = append(limits, limit{k, c - b - x.t.Accel*k*(k-1)/2, d - a + x.t.Accel*k*(k-1)/2})
		}
	}
	for v := -x.t.Speed; v <= x.t.Speed; v++ {
		if size(v) <= x.t.Accel*(u-x.t.From+1) && !slices.ContainsFunc(limits, func(m limit) bool { return m.k*v < m.lo || m.k*v > m.hi }) {
			l = append(l, v)
		}
	}
	return l, true
}

// boxAt returns the box at a tick, and whether there is one.
func (x reading) boxAt(u int) (b api.TkBox, ok bool) {
	b.At = u
	l := spansOf(&b)
	for part := range 3 {
		v, ok := x.velocitiesAt(part, u)
		if !ok || len(v) == 0 {
			return api.TkBox{}, false
		}
		p := x.placesAt(part, u)
		*l[part], *l[part+3] = span(p[0], p[len(p)-1]), span(v[0], v[len(v)-1])
	}
	return b, true
}

// answer is what all functions say of a tick.
type answer struct {
	where, spare api.TkBox
	alone        [5]api.TkBox
	fails        [5]bool
	agree        bool
	best         int
	e, f, g      api.Errno // of Where, Spare and Best
	h            [5]api.Errno
}

// widest returns the width of a box.
func widest(b api.TkBox) int { return max(b.X.Hi-b.X.Lo, b.Y.Hi-b.Y.Lo, b.Z.Hi-b.Z.Lo) }

// touches reports whether boxes have a place and a velocity in common.
func touches(a, b api.TkBox) bool {
	l, m := spansOf(&a), spansOf(&b)
	for i := range l {
		if l[i].Hi < m[i].Lo || m[i].Hi < l[i].Lo {
			return false
		}
	}
	return true
}

// down is ErrDown, where something is not.
func down(ok bool) api.Errno {
	if ok {
		return api.OK
	}
	return api.ErrDown
}

// answerOf returns what the definitions say of a tick.
func answerOf(t api.TkTask, u, now int) answer {
	var a answer
	a.where, a.agree = read(t, now, func(int) bool { return true }).boxAt(u)
	a.e = down(a.agree)
	spare := false
	if len(t.Trackers) == 0 {
		a.spare, spare = a.where, a.agree
	}
	for i := range t.Trackers {
		own, ok := read(t, now, func(tracker int) bool { return tracker == i }).boxAt(u)
		a.alone[i], a.h[i] = own, down(ok)
		b, ok := read(t, now, func(tracker int) bool { return tracker != i }).boxAt(u)
		a.fails[i] = ok
		if !ok {
			continue
		}
		if !spare {
			a.spare, spare = b, true
		}
		l, m := spansOf(&a.spare), spansOf(&b)
		for j := range l {
			*l[j] = span(min(l[j].Lo, m[j].Lo), max(l[j].Hi, m[j].Hi))
		}
	}
	a.f, a.g = down(spare), down(spare)
	if spare {
		a.g = api.ErrNone
		for i := len(t.Trackers) - 1; i >= 0; i-- {
			if a.h[i] == api.OK && touches(a.alone[i], a.spare) && (a.g == api.ErrNone || widest(a.alone[i]) <= widest(a.alone[a.best])) {
				a.best, a.g = i, api.OK
			}
		}
	}
	return a
}

// asked returns what the functions say of a tick.
func asked(t *testing.T, x api.TkTask, u, now int) answer {
	var a answer
	a.where, a.e = track.Where(x, u, now)
	a.spare, a.f = track.Spare(x, u, now)
	a.best, a.g = track.Best(x, u, now)
	for i := range x.Trackers {
		a.alone[i], a.h[i] = track.Alone(x, i, u, now)
	}
	l, agree, e := track.Fails(x, u, now)
	if e != api.OK || !slices.IsSorted(l) {
		t.Fatalf("Fails = %v, %d", l, e)
	}
	a.agree = agree
	for _, i := range l {
		a.fails[i] = true
	}
	return a
}

// P5.3, P5.4, P5.5
func TestBoxesAsDefined(t *testing.T) {
	r := rand.New(rand.NewSource(53))
	agree, some, none, early, noBest := 0, 0, 0, 0, 0
	for range 1500 {
		x, p := randomTask(r, small)
		for i := range x.Trackers {
			if r.Intn(5) < 2 {
				x = spoil(r, x, small, i)
			}
		}
		u, now := tickOf(r, x, p), nowOf(r, x, small)
		want, got := answerOf(x, u, now), asked(t, x, u, now)
		if want != got {
			t.Fatalf("%v, and not %v at %d by %d of %v", got, want, u, now, x)
		}
		switch {
		case u < x.From:
			early++
		case got.agree:
			agree++
		case got.f == api.OK:
			some++
		default:
			none++
		}
		if got.g == api.ErrNone && len(x.Trackers) > 0 {
			noBest++
		}
	}
	if agree < 500 || some < 100 || none < 100 || early < 30 || noBest < 10 {
		t.Errorf("%d agree, of %d some may fail, of %d none, %d before, %d without a best source", agree, some, none, early, noBest)
	}
}

// P5.2
func TestPlotsAsDefined(t *testing.T) {
	r := rand.New(rand.NewSource(52))
	for range 3000 {
		s := []scale{small, large}[r.Intn(2)]
		x, _ := randomTask(r, s)
		now := nowOf(r, x, s)
		var known []int
		for i, p := range x.Plots {
			if n, e := track.Width(x, i); n != widthOf(x.Trackers[p.Tracker], p) || e != api.OK {
				t.Fatalf("Width = %d, %d of %v", n, e, x)
			}
			if p.Tick+x.Trackers[p.Tracker].Late <= now {
				known = append(known, i)
			}
		}
		if l, e := track.Known(x, now); !slices.Equal(l, known) || e != api.OK {
			t.Fatalf("Known = %v, %d, and not %v of %v", l, e, known, x)
		}
		ticks := r.Intn(200)
		if n, e := track.Reach(x, ticks); n != reachOf(x, ticks) || e != api.OK {
			t.Fatalf("Reach of %d = %d, %d of %v", ticks, n, e, x)
		}
	}
}

// aheadOf returns the box ahead, tick by tick, and whether there is one.
func aheadOf(t api.TkTask, b api.TkBox, n int) (api.TkBox, bool) {
	l := spansOf(&b)
	for i := range 3 {
		p, v := l[i], l[i+3]
		*v = span(max(v.Lo, -t.Speed), min(v.Hi, t.Speed))
		if v.Lo > v.Hi {
			return api.TkBox{}, false
		}
	ticks:
		for range n {
			*p = span(max(p.Lo+v.Lo, -far), min(p.Hi+v.Hi, far))
			if p.Lo > p.Hi {
				return api.TkBox{}, false
			}
			*v = span(max(v.Lo-t.Accel, -t.Speed), min(v.Hi+t.Accel, t.Speed))
			if v.Lo == -t.Speed && v.Hi == t.Speed && *p == span(-far, far) {
				break ticks // nothing changes any more
			}
		}
	}
	b.At += n
	return b, true
}

// randomBox returns a box, which is often at the end of all places, or too fast.
func randomBox(r *rand.Rand, t api.TkTask) api.TkBox {
	b := api.TkBox{At: []int{0, 99000 + r.Intn(1001), r.Intn(100001)}[r.Intn(3)]}
	for i, s := range spansOf(&b) {
		most, middle := far, []int{0, far, -far, r.Intn(far)}[r.Intn(4)]
		if i >= 3 {
			most, middle = fast, beside(r, t.Speed*5/4)
		}
		a, c := clip(middle+beside(r, 3*t.Speed), -most, most), clip(middle+beside(r, 3*t.Speed), -most, most)
		*s = span(min(a, c), max(a, c))
	}
	return b
}

// P5.6
func TestAheadAsDefined(t *testing.T) {
	r := rand.New(rand.NewSource(56))
	ok, down := 0, 0
	for range 5000 {
		s := []scale{small, large}[r.Intn(2)]
		x, _ := randomTask(r, s)
		b := randomBox(r, x)
		n := min([]int{r.Intn(5), r.Intn(601)}[r.Intn(2)], 100000-b.At)
		want, is := aheadOf(x, b, n)
		got, e := track.Ahead(x, b, n)
		if is && (got != want || e != api.OK) || !is && (got != (api.TkBox{}) || e != api.ErrDown) {
			t.Fatalf("Ahead of %v by %d = %v, %d, and not %v, %t of %v", b, n, got, e, want, is, x)
		}
		if is {
			ok++
		} else {
			down++
		}
	}
	if ok < 1000 || down < 500 {
		t.Errorf("%d boxes ahead, none of %d", ok, down)
	}
}
