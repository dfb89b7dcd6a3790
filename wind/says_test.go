package wind_test

import (
	"math"
	"math/rand"
	"slices"
	"testing"

	"hangfire/api"
	"hangfire/wind"
)

// P1.4
func TestKnown(t *testing.T) {
	for now, want := range map[int][]int{
		0: nil, 999: nil, 1000: {0}, 1599: {0}, 1600: {0, 1}, 2099: {0, 1}, 2100: {0, 1, 3}, 2199: {0, 1, 3}, 2200: {0, 1, 2, 3},
		5000: {0, 1, 2, 3}, 5001: {0, 1, 2}, 7000: {0, 1, 2}, 7001: {1, 2}, 13000: {1, 2}, 13001: {2}, 13600: {2}, 13601: nil, api.MaxTick: nil,
	} {
		if l, e := wind.Known(example(), now); e != api.OK || !slices.Equal(l, want) {
			t.Errorf("Known at %d = %v, %d", now, l, e)
		}
	}
	for _, now := range []int{-1, api.MaxTick + 1, math.MinInt, math.MaxInt} {
		if l, e := wind.Known(example(), now); len(l) != 0 || e != api.ErrRange {
			t.Errorf("Known at %d = %v, %d", now, l, e)
		}
	}
	// A sounding may be in the future, and its Life may end before it is known.
	x := example()
	x.Soundings[0].Tick, x.Sources[1].Life = api.MaxTick, 599
	if l, e := wind.Known(x, 2200); e != api.OK || !slices.Equal(l, []int{3}) {
		t.Errorf("Known = %v, %d", l, e)
	}
	if l, e := wind.Known(x, api.MaxTick); e != api.OK || !slices.Equal(l, []int{0}) {
		t.Errorf("Known = %v, %d", l, e)
	}
}

// P1.4
func TestDoubt(t *testing.T) {
	for i, c := range []struct {
		sounding, height, tick, want int
		e                            api.Errno
	}{
		{0, 100000, 1000, 50, api.OK},
		{0, 100000, 1001, 80, api.OK},
		{0, 100000, 999, 80, api.OK},
		{0, 100000, 1600, 80, api.OK},
		{0, 100000, 1601, 110, api.OK},
		{0, 100000, 400, 80, api.OK},
		{0, 100000, 399, 110, api.OK},
		{0, 100001, 1000, 70, api.OK},
		{0, 99999, 1000, 70, api.OK},
		{0, 0, 1000, 70, api.OK},
		{0, 200000, 1000, 70, api.OK},
		{0, 200001, 1000, 90, api.OK},
		{0, 250000, 1600, 120, api.OK},
		{2, 0, 1000, 250, api.OK},
		{2, 0, 999, 280, api.OK},
		{3, 300000, 2000, 80, api.OK},
		{2, api.MaxWnHeight - 1, 0, 100 + 3*30 + 994*20, api.OK},
		{0, 0, api.MaxTick, 50 + 165*30 + 20, api.OK},
		// Whatever the sounding is, known or not, and also beyond the heights of its source.
		{0, 5000000, 0, 50 + 2*30 + 49*20, api.OK},
		{4, 0, 0, 0, api.ErrNone},
		{-1, 0, 0, 0, api.ErrNone},
		{math.MinInt, 0, 0, 0, api.ErrNone},
		{math.MaxInt, 0, 0, 0, api.ErrNone},
		{4, -1, -1, 0, api.ErrNone},
		{0, -1, 0, 0, api.ErrRange},
		{0, api.MaxWnHeight, 0, 0, api.ErrRange},
		{0, 0, -1, 0, api.ErrRange},
		{0, 0, api.MaxTick + 1, 0, api.ErrRange},
		{0, math.MaxInt, math.MinInt, 0, api.ErrRange},
	} {
		if n, e := wind.Doubt(example(), c.sounding, c.height, c.tick); n != c.want || e != c.e {
			t.Errorf("%d: Doubt = %d, %d", i, n, e)
		}
	}
}

// P1.5
func TestSays(t *testing.T) {
	for i, c := range []struct {
		source, band, tick, now int
		x, y                    api.Span
		e                       api.Errno
	}{
		{0, 0, 2200, 2200, span(320, 580), span(-130, 130), api.OK},
		{1, 0, 2200, 2200, span(600, 780), span(-150, 80), api.OK},
		{1, 1, 2200, 2200, span(640, 940), span(-110, 240), api.OK},
		{1, 0, 2200, 2199, span(420, 780), span(-280, 80), api.OK},
		{0, 0, 1000, 2200, span(380, 520), span(-70, 70), api.OK},
		// A tick before now, and one before the sounding.
		{0, 0, 400, 1000, span(350, 550), span(-100, 100), api.OK},
		{0, 0, 0, 1000, span(320, 580), span(-130, 130), api.OK},
		// Nothing is known of the source.
		{2, 0, 2200, 2099, none, none, api.ErrNone},
		{0, 0, 2200, 999, none, none, api.ErrNone},
		{0, 0, 2200, 7001, none, none, api.ErrNone},
		// Errors.
		{3, 0, 0, 0, none, none, api.ErrNone},
		{-1, 0, 0, 0, none, none, api.ErrNone},
		{0, 2, 0, 0, none, none, api.ErrNone},
		{0, -1, 0, 0, none, none, api.ErrNone},
		{3, 0, 0, -1, none, none, api.ErrNone},
		{-1, 0, 0, -1, none, none, api.ErrNone},
		{0, 2, -1, 0, none, none, api.ErrNone},
		{math.MaxInt, math.MinInt, -1, 0, none, none, api.ErrNone},
		{0, 0, -1, 0, none, none, api.ErrRange},
		{0, 0, api.MaxTick + 1, 0, none, none, api.ErrRange},
		{0, 0, 0, -1, none, none, api.ErrRange},
		{0, 0, 0, api.MaxTick + 1, none, none, api.ErrRange},
	} {
		x, y, e := wind.Says(example(), c.source, c.band, c.tick, c.now)
		if x != c.x || y != c.y || e != c.e {
			t.Errorf("%d: Says = %v, %v, %d", i, x, y, e)
		}
	}
}

// The heights of a band have its To not, and what a source says has parts of a wind alone.
func TestSaysEnds(t *testing.T) {
	x := example()
	x.Soundings[0].Height = 0
	for cut, want := range map[int]api.Span{1: span(400, 500), 2: span(380, 520), 100001: span(380, 520), 100002: span(360, 540)} {
		x.Cuts = []int{cut}
		if got, _, e := wind.Says(x, 0, 0, 1000, 1000); got != want || e != api.OK {
			t.Errorf("Says up to %d = %v, %d", cut, got, e)
		}
	}
	x.Soundings[0].X, x.Soundings[0].Y = 20000, -20000
	if p, q, e := wind.Says(x, 0, 0, 1000, 1000); p.Hi != 20000 || q.Lo != -20000 || e != api.OK {
		t.Errorf("Says = %v, %v, %d", p, q, e)
	}
}

// split is the example with a second sounding of mast, at almost the same tick.
func split(x, y int) api.WnTask {
	t := example()
	t.Soundings = append(t.Soundings, api.WnSounding{Source: 0, Tick: 1001, Height: 100000, X: x, Y: y})
	return t
}

// P1.5: mast leaves a single number for each part, or none.
func TestContradictsItself(t *testing.T) {
	// Its doubts are 100 about the first one, and 70 about the second one: 170 in all.
	if p, q, e := wind.Says(split(620, -170), 0, 0, 1001, 1001); p != span(550, 550) || q != span(-100, -100) || e != api.OK {
		t.Errorf("Says = %v, %v, %d", p, q, e)
	}
	for i, x := range []api.WnTask{split(621, 0), split(279, 0), split(450, 171), split(450, -171)} {
		if p, q, e := wind.Says(x, 0, 0, 1001, 1001); p != none || q != none || e != api.ErrDown {
			t.Errorf("%d: Says = %v, %v, %d", i, p, q, e)
		}
		// Nobody else is known at 1001.
		if l, agree, e := wind.Blame(x, 0, 1001, 1001); !slices.Equal(l, []int{0}) || agree || e != api.OK {
			t.Errorf("%d: Blame = %v, %t, %d", i, l, agree, e)
		}
		if l, e := wind.Bands(x, 1001, 1001); e != api.OK || l[0] != band(0, 200000, whole, whole) {
			t.Errorf("%d: Bands = %v, %d", i, l, e)
		}
	}
}

// Two sources that both contradict themselves: nobody alone is to blame.
func TestTwoContradictThemselves(t *testing.T) {
	x := split(900, 0)
	x.Sources[1].Late = 0
	x.Soundings = append(x.Soundings[:2], x.Soundings[4], api.WnSounding{Source: 1, Tick: 1000, Height: 150000, X: 2000})
	for _, n := range []int{0, 1} {
		if _, _, e := wind.Says(x, n, 0, 1001, 1001); e != api.ErrDown {
			t.Errorf("Says of %d: %d", n, e)
		}
	}
	l, agree, e := wind.Blame(x, 0, 1001, 1001)
	if len(l) != 0 || agree || e != api.OK {
		t.Errorf("Blame = %v, %t, %d", l, agree, e)
	}
	if l, e := wind.Bands(x, 1001, 1001); len(l) != 0 || e != api.ErrDown {
		t.Errorf("Bands = %v, %d", l, e)
	}
	if p, q, e := wind.At(x, 0, 1001, 1001); p != none || q != none || e != api.ErrDown {
		t.Errorf("At = %v, %v, %d", p, q, e)
	}
}

// P1.6
func TestBlame(t *testing.T) {
	for i, c := range []struct {
		band, tick, now int
		want            []int
		agree           bool
		e               api.Errno
	}{
		{0, 2200, 2200, []int{0}, false, api.OK},
		{1, 2200, 2200, nil, true, api.OK},
		{0, 2200, 2099, nil, true, api.OK},
		{0, 2200, 0, nil, true, api.OK},
		{2, 0, 0, nil, false, api.ErrNone},
		{-1, 0, 0, nil, false, api.ErrNone},
		{math.MaxInt, 0, 0, nil, false, api.ErrNone},
		{2, -1, 0, nil, false, api.ErrNone},
		{0, -1, 0, nil, false, api.ErrRange},
		{0, api.MaxTick + 1, 0, nil, false, api.ErrRange},
		{0, 0, -1, nil, false, api.ErrRange},
		{0, 0, api.MaxTick + 1, nil, false, api.ErrRange},
	} {
		if l, agree, e := wind.Blame(example(), c.band, c.tick, c.now); !slices.Equal(l, c.want) || agree != c.agree || e != c.e {
			t.Errorf("%d: Blame = %v, %t, %d", i, l, agree, e)
		}
	}
	// Mast and blue alone: both are to blame, and there is no answer.
	x := only(example(), []int{0, 1, 2})
	if l, agree, e := wind.Blame(x, 0, 2200, 2200); !slices.Equal(l, []int{0, 1}) || agree || e != api.OK {
		t.Errorf("Blame = %v, %t, %d", l, agree, e)
	}
	if l, e := wind.Bands(x, 2200, 2200); len(l) != 0 || e != api.ErrDown {
		t.Errorf("Bands = %v, %d", l, e)
	}
	// They agree by a single number, and by none.
	for y, agree := range map[int]bool{310: true, 311: false, -310: true, -311: false} {
		x := only(example(), []int{0, 1})
		x.Soundings[1].X, x.Soundings[1].Y = 450, y
		if _, is, e := wind.Blame(x, 0, 2200, 2200); is != agree || e != api.OK {
			t.Errorf("Blame for %d: %t, %d", y, is, e)
		}
	}
}

// P1.7
func TestAt(t *testing.T) {
	for i, c := range []struct {
		height, tick, now int
		x, y              api.Span
		e                 api.Errno
	}{
		{150000, 2200, 2200, span(620, 780), span(-130, 80), api.OK},
		{700000, 2200, 2200, none, none, api.ErrDown},
		{100000, 1000, 1000, span(400, 500), span(-50, 50), api.OK},
		// Nobody says anything.
		{5, 5, 5, whole, whole, api.OK},
		{0, 0, 0, whole, whole, api.OK},
		{api.MaxWnHeight - 1, api.MaxTick, api.MaxTick, whole, whole, api.OK},
		// Above all bands.
		{2000000, 2200, 2099, span(60, 940), span(-490, 440), api.OK},
		{-1, 0, 0, none, none, api.ErrRange},
		{api.MaxWnHeight, 0, 0, none, none, api.ErrRange},
		{0, -1, 0, none, none, api.ErrRange},
		{0, api.MaxTick + 1, 0, none, none, api.ErrRange},
		{0, 0, -1, none, none, api.ErrRange},
		{0, 0, api.MaxTick + 1, none, none, api.ErrRange},
		{700000, 2200, math.MaxInt, none, none, api.ErrRange},
	} {
		x, y, e := wind.At(example(), c.height, c.tick, c.now)
		if x != c.x || y != c.y || e != c.e {
			t.Errorf("%d: At = %v, %v, %d", i, x, y, e)
		}
	}
}

// P1.7
func TestBandsOfTask(t *testing.T) {
	for i, c := range []struct {
		tick, now int
		want      []api.WnBand
		e         api.Errno
	}{
		{2200, 2200, []api.WnBand{
			band(0, 200000, span(600, 780), span(-150, 80)),
			band(200000, 1000000, span(640, 740), span(-110, 240)),
		}, api.OK},
		{2200, 2099, []api.WnBand{
			band(0, 200000, span(420, 580), span(-130, 80)),
			band(200000, 1000000, span(260, 740), span(-290, 240)),
		}, api.OK},
		{0, 0, []api.WnBand{band(0, 200000, whole, whole), band(200000, 1000000, whole, whole)}, api.OK},
		{-1, 0, nil, api.ErrRange},
		{api.MaxTick + 1, 0, nil, api.ErrRange},
		{0, -1, nil, api.ErrRange},
		{0, api.MaxTick + 1, nil, api.ErrRange},
	} {
		if l, e := wind.Bands(example(), c.tick, c.now); !slices.Equal(l, c.want) || e != c.e {
			t.Errorf("%d: Bands = %v, %d", i, l, e)
		}
	}
	// There is an answer for the first band, and none for the second one: mast and blue contradict each other there.
	x := example()
	x.Cuts = []int{200000, 700000, 700001}
	if _, _, e := wind.At(x, 0, 2200, 2200); e != api.OK {
		t.Errorf("At: %d", e)
	}
	if l, e := wind.Bands(x, 2200, 2200); len(l) != 0 || e != api.ErrDown {
		t.Errorf("Bands = %v, %d", l, e)
	}
}

// The example of Over by the first list of Bands.
func TestOverBands(t *testing.T) {
	l, _ := wind.Bands(example(), 2200, 2200)
	for _, c := range []struct {
		height int
		x, y   api.Span
		e      api.Errno
	}{{199999, span(600, 780), span(-150, 80), api.OK}, {200000, span(640, 740), span(-110, 240), api.OK}, {1000000, none, none, api.ErrNone}} {
		if x, y, e := wind.Over(l, c.height); x != c.x || y != c.y || e != c.e {
			t.Errorf("Over at %d = %v, %v, %d", c.height, x, y, e)
		}
	}
}

// count returns how many parts of a size a length has, begun ones included.
func count(length, size int) int {
	n := 0
	for n*size < length {
		n++
	}
	return n
}

// left is what the known soundings of the chosen sources leave of the parts of a wind, from one height to another one, straight from the definition.
func left(t api.WnTask, low, high, tick, now int, chosen func(source int) bool) (l [2]api.Span, some bool) {
	l = [2]api.Span{whole, whole}
	for _, s := range t.Soundings {
		by := t.Sources[s.Source]
		if !chosen(s.Source) || s.Tick+by.Late > now || now-s.Tick > by.Life {
			continue
		}
		some = true
		doubt := 0
		for _, h := range []int{low, (low + high) / 2, high} {
			minutes := count(max(s.Tick, tick)-min(s.Tick, tick), api.WnMinute)
			steps := count(max(s.Height, h)-min(s.Height, h), api.WnStep)
			doubt = max(doubt, by.Error+minutes*t.Age+steps*t.Shear)
		}
		for i, n := range []int{s.X, s.Y} {
			l[i] = span(max(l[i].Lo, n-doubt), min(l[i].Hi, n+doubt))
		}
	}
	return l, some
}

func filled(l [2]api.Span) bool { return l[0].Lo <= l[0].Hi && l[1].Lo <= l[1].Hi }

// reckon returns what Blame and At or Bands have to return for some heights.
func reckon(t api.WnTask, low, high, tick, now int) (l []int, agree bool, spans [2]api.Span, ok bool) {
	spans, _ = left(t, low, high, tick, now, func(int) bool { return true })
	if filled(spans) {
		return nil, true, spans, true
	}
	for i := range t.Sources {
		others, _ := left(t, low, high, tick, now, func(source int) bool { return source != i })
		if filled(others) {
			l = append(l, i)
			spans = others
		}
	}
	return l, false, spans, len(l) == 1
}

// checkAgainst compares all that is said for the bands, and for a height, with the definition.
func checkAgainst(t *testing.T, x api.WnTask, height, tick, now int) (down bool) {
	from, all := 0, true
	bands, be := wind.Bands(x, tick, now)
	for i, to := range x.Cuts {
		for j := range x.Sources {
			p, q, e := wind.Says(x, j, i, tick, now)
			l, some := left(x, from, to-1, tick, now, func(source int) bool { return source == j })
			switch {
			case !some && e != api.ErrNone, some && !filled(l) && e != api.ErrDown, some && filled(l) && (e != api.OK || [2]api.Span{p, q} != l):
				t.Fatalf("Says of %d for %d = %v, %v, %d of %v", j, i, p, q, e, x)
			}
		}
		want, agree, spans, ok := reckon(x, from, to-1, tick, now)
		all = all && ok
		if l, is, e := wind.Blame(x, i, tick, now); !slices.Equal(l, want) || is != agree || e != api.OK {
			t.Fatalf("Blame for %d = %v, %t, %d of %v", i, l, is, e, x)
		}
		if ok && be == api.OK && bands[i] != band(from, to, spans[0], spans[1]) {
			t.Fatalf("band %d = %v of %v", i, bands[i], x)
		}
		from = to
	}
	if all != (be == api.OK) || !all && be != api.ErrDown || len(bands) > 0 != all {
		t.Fatalf("Bands = %v, %d of %v", bands, be, x)
	}
	_, _, spans, ok := reckon(x, height, height, tick, now)
	p, q, e := wind.At(x, height, tick, now)
	if ok && (e != api.OK || [2]api.Span{p, q} != spans) || !ok && (e != api.ErrDown || p != none || q != none) {
		t.Fatalf("At %d = %v, %v, %d of %v", height, p, q, e, x)
	}
	return !all
}

// P1.4 to P1.7: random tasks with up to two sources that are wrong.
func TestAgainstDefinition(t *testing.T) {
	r := rand.New(rand.NewSource(14))
	down := 0
	for range 4000 {
		x, _ := randomTask(r)
		for range r.Intn(3) {
			x = spoil(r, x, r.Intn(len(x.Sources)))
		}
		if checkAgainst(t, x, r.Intn(endHeight), r.Intn(endTick), r.Intn(endTick)) {
			down++
		}
	}
	if down < 100 || down > 3900 {
		t.Errorf("%d of 4000 have no answer", down)
	}
}
