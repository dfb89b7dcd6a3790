package wind_test

import (
	"math"
	"math/rand"
	"slices"
	"strings"
	"testing"

	"hangfire/api"
	"hangfire/wind"
)

// P1.1
func TestName(t *testing.T) {
	for s, want := range map[string]bool{
		"a": true, "z": true, "mast-9": true, "a--": true, "a0": true, "az": true, "a-": true, strings.Repeat("a", 24): true,
		"": false, "A": false, "9": false, "9a": false, "-": false, "-a": false, "a b": false, "aB": false, "a_": false, "é": false, "aé": false,
		"a`": false, "a{": false, "`": false, "{": false, "a/": false, "a:": false, "a,": false, "a.": false, "a\x00": false, "a\n": false, "a\xff": false,
		strings.Repeat("a", 25): false,
	} {
		if wind.Name(s) != want {
			t.Errorf("Name of %q is not %t", s, want)
		}
	}
}

// twoBands are from 0 to 10 and from 10 to 20.
func twoBands() []api.WnBand {
	return []api.WnBand{band(0, 10, span(-5, 5), span(0, 0)), band(10, 20, span(1, 2), span(3, 4))}
}

// manyBands are n bands of one height each.
func manyBands(n int) []api.WnBand {
	var l []api.WnBand
	for i := range n {
		l = append(l, band(i, i+1, none, none))
	}
	return l
}

// P1.1
func TestCheckBands(t *testing.T) {
	for i, c := range []struct {
		l  []api.WnBand
		at int
		e  api.Errno
	}{
		{twoBands(), 0, api.OK},
		{manyBands(1), 0, api.OK},
		{manyBands(20), 0, api.OK},
		{nil, 0, api.ErrLong},
		{[]api.WnBand{}, 0, api.ErrLong},
		{manyBands(21), 0, api.ErrLong},
		{append(manyBands(20), api.WnBand{From: 7}), 0, api.ErrLong},
		// From.
		{[]api.WnBand{band(1, 10, none, none)}, 0, api.ErrArg},
		{[]api.WnBand{band(-1, 10, none, none)}, 0, api.ErrArg},
		{[]api.WnBand{band(0, 10, none, none), band(11, 20, none, none)}, 1, api.ErrArg},
		{[]api.WnBand{band(0, 10, none, none), band(9, 20, none, none)}, 1, api.ErrArg},
		{[]api.WnBand{band(0, 10, none, none), band(0, 20, none, none)}, 1, api.ErrArg},
		{append(manyBands(3), band(4, 5, none, none), band(9, 10, none, none)), 3, api.ErrArg},
		// To.
		{[]api.WnBand{band(0, 0, none, none)}, 0, api.ErrRange},
		{[]api.WnBand{band(0, -1, none, none)}, 0, api.ErrRange},
		{[]api.WnBand{band(0, 10, none, none), band(10, 10, none, none)}, 1, api.ErrRange},
		{[]api.WnBand{band(0, 10, none, none), band(10, 9, none, none)}, 1, api.ErrRange},
		{[]api.WnBand{band(0, 1, none, none)}, 0, api.OK},
		{[]api.WnBand{band(0, api.MaxWnHeight, none, none)}, 0, api.OK},
		{[]api.WnBand{band(0, api.MaxWnHeight+1, none, none)}, 0, api.ErrRange},
		{[]api.WnBand{band(0, math.MaxInt, none, none)}, 0, api.ErrRange},
		// Spans.
		{[]api.WnBand{band(0, 10, whole, whole)}, 0, api.OK},
		{[]api.WnBand{band(0, 10, span(20000, 20000), span(-20000, -20000))}, 0, api.OK},
		{[]api.WnBand{band(0, 10, span(3, 2), none)}, 0, api.ErrRange},
		{[]api.WnBand{band(0, 10, none, span(3, 2))}, 0, api.ErrRange},
		{[]api.WnBand{band(0, 10, span(-20001, 0), none)}, 0, api.ErrRange},
		{[]api.WnBand{band(0, 10, span(0, 20001), none)}, 0, api.ErrRange},
		{[]api.WnBand{band(0, 10, none, span(-20001, 0))}, 0, api.ErrRange},
		{[]api.WnBand{band(0, 10, none, span(0, 20001))}, 0, api.ErrRange},
		{[]api.WnBand{band(0, 10, none, span(math.MinInt, math.MaxInt))}, 0, api.ErrRange},
		{[]api.WnBand{band(0, 10, none, none), band(10, 20, span(1, 0), none)}, 1, api.ErrRange},
		// The first band with an error decides, and of its errors the one that is named first.
		{[]api.WnBand{band(0, 0, none, none), band(5, 9, none, none)}, 0, api.ErrRange},
		{[]api.WnBand{band(1, 1, span(3, 2), none)}, 0, api.ErrArg},
		{[]api.WnBand{band(0, 10, none, none), band(9, 1, none, none)}, 1, api.ErrArg},
	} {
		if at, e := wind.CheckBands(c.l); at != c.at || e != c.e {
			t.Errorf("%d: CheckBands = %d, %d", i, at, e)
		}
	}
}

// P1.2
func TestOver(t *testing.T) {
	two := twoBands()
	for i, c := range []struct {
		l      []api.WnBand
		height int
		x, y   api.Span
		e      api.Errno
	}{
		{two, 0, span(-5, 5), span(0, 0), api.OK},
		{two, 9, span(-5, 5), span(0, 0), api.OK},
		{two, 10, span(1, 2), span(3, 4), api.OK},
		{two, 19, span(1, 2), span(3, 4), api.OK},
		{two, 20, none, none, api.ErrNone},
		{two, api.MaxWnHeight - 1, none, none, api.ErrNone},
		{two, -1, none, none, api.ErrRange},
		{two, api.MaxWnHeight, none, none, api.ErrRange},
		{two, math.MinInt, none, none, api.ErrRange},
		{two, math.MaxInt, none, none, api.ErrRange},
		{[]api.WnBand{band(0, api.MaxWnHeight, span(1, 1), span(2, 2))}, api.MaxWnHeight - 1, span(1, 1), span(2, 2), api.OK},
		{nil, -1, none, none, api.ErrLong},
		{two[1:], -1, none, none, api.ErrArg},
		{[]api.WnBand{band(0, 0, none, none)}, -1, none, none, api.ErrRange},
		{[]api.WnBand{two[0], band(10, 20, span(2, 1), none)}, 5, none, none, api.ErrRange},
	} {
		if x, y, e := wind.Over(c.l, c.height); x != c.x || y != c.y || e != c.e {
			t.Errorf("%d: Over at %d = %v, %v, %d", i, c.height, x, y, e)
		}
	}
}

// P1.2
func TestCovers(t *testing.T) {
	two := twoBands()
	for i, c := range []struct {
		a, b []api.WnBand
		want bool
		e    api.Errno
	}{
		{two, two, true, api.OK},
		{two, two[:1], true, api.OK},
		{two[:1], two, false, api.OK},
		// They reach one mm higher, or less high.
		{two, []api.WnBand{two[0], band(10, 19, span(1, 2), span(3, 4))}, true, api.OK},
		{two, []api.WnBand{two[0], band(10, 21, span(1, 2), span(3, 4))}, false, api.OK},
		// One band against several.
		{[]api.WnBand{band(0, 20, span(-5, 5), span(0, 4))}, two, true, api.OK},
		{two, []api.WnBand{band(0, 20, span(1, 2), span(0, 0))}, false, api.OK},
		{two, []api.WnBand{band(0, 5, none, none), band(5, 10, span(-5, 5), none), band(10, 11, span(1, 1), span(3, 3))}, true, api.OK},
		// A band that is in both, by one height.
		{two, []api.WnBand{band(0, 5, none, none), band(5, 10, span(1, 1), none)}, true, api.OK},
		{two, []api.WnBand{band(0, 5, none, none), band(5, 11, span(1, 1), none)}, false, api.OK},
		{two, []api.WnBand{band(0, 9, none, none), band(9, 20, span(1, 2), span(3, 4))}, false, api.OK},
		// By each end of each span.
		{two, []api.WnBand{band(0, 10, span(-6, 5), none)}, false, api.OK},
		{two, []api.WnBand{band(0, 10, span(-5, 6), none)}, false, api.OK},
		{two, []api.WnBand{band(0, 10, none, span(-1, 0))}, false, api.OK},
		{two, []api.WnBand{band(0, 10, none, span(0, 1))}, false, api.OK},
		{two, []api.WnBand{two[0], band(10, 20, span(0, 2), span(3, 4))}, false, api.OK},
		{two, []api.WnBand{two[0], band(10, 20, span(1, 2), span(3, 5))}, false, api.OK},
		// The errors of a come before those of b.
		{nil, two, false, api.ErrLong},
		{two, nil, false, api.ErrLong},
		{two, two[1:], false, api.ErrArg},
		{two[1:], nil, false, api.ErrArg},
		{nil, two[1:], false, api.ErrLong},
		{[]api.WnBand{band(0, 0, none, none)}, two[1:], false, api.ErrRange},
	} {
		if is, e := wind.Covers(c.a, c.b); is != c.want || e != c.e {
			t.Errorf("%d: Covers = %t, %d", i, is, e)
		}
	}
}

// coversByHeights looks at each height, as the definition does.
func coversByHeights(a, b []api.WnBand) bool {
	if a[len(a)-1].To < b[len(b)-1].To {
		return false
	}
	for h := range b[len(b)-1].To {
		ax, ay, _ := wind.Over(a, h)
		bx, by, _ := wind.Over(b, h)
		if !lies(bx, ax) || !lies(by, ay) {
			return false
		}
	}
	return true
}

// widen returns bands that cover others, often with other cuts.
func widen(r *rand.Rand, l []api.WnBand) []api.WnBand {
	w := slices.Clone(l)
	for i := range w {
		w[i].X = span(w[i].X.Lo-r.Intn(3), w[i].X.Hi+r.Intn(3))
		w[i].Y = span(w[i].Y.Lo-r.Intn(3), w[i].Y.Hi+r.Intn(3))
	}
	if i := r.Intn(len(w)); w[i].To-w[i].From > 1 {
		cut := w[i].From + 1 + r.Intn(w[i].To-w[i].From-1)
		above := w[i]
		w[i].To, above.From = cut, cut
		w = slices.Insert(w, i+1, above)
	}
	w[len(w)-1].To += r.Intn(2)
	return w
}

// P1.15
func TestCovering(t *testing.T) {
	r := rand.New(rand.NewSource(115))
	yes := 0
	for n := range 3000 {
		a := randomBands(r)
		b := widen(r, a)
		c := widen(r, b)
		for i, l := range [][2][]api.WnBand{{a, a}, {b, a}, {c, b}, {c, a}} {
			if is, e := wind.Covers(l[0], l[1]); !is || e != api.OK || !coversByHeights(l[0], l[1]) {
				t.Fatalf("%d: Covers %d = %t, %d", n, i, is, e)
			}
		}
		d := slices.Clone(b)
		if i := r.Intn(len(d)); r.Intn(2) == 0 {
			d[i].X.Lo = min(d[i].X.Hi, d[i].X.Lo+r.Intn(3))
		} else {
			d[i].Y.Hi = max(d[i].Y.Lo, d[i].Y.Hi-r.Intn(3))
		}
		is, e := wind.Covers(d, a)
		if e != api.OK || is != coversByHeights(d, a) {
			t.Fatalf("%d: Covers = %t, %d of %v, %v", n, is, e, d, a)
		}
		if is {
			yes++
		}
	}
	if yes < 100 || yes > 2900 {
		t.Errorf("%d of 3000 cover", yes)
	}
}
