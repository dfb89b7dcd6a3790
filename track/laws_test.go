package track_test

import (
	"math/rand"
	"slices"
	"testing"

	"hangfire/api"
	"hangfire/track"
)

// either returns one of both scales.
func either(r *rand.Rand) scale { return []scale{small, large}[r.Intn(2)] }

// P5.8
func TestPathIsInBox(t *testing.T) {
	r := rand.New(rand.NewSource(58))
	narrow := 0
	for range 3000 {
		s := either(r)
		x, p := randomTask(r, s)
		u, now := tickOf(r, x, p), nowOf(r, x, s)
		b, e := track.Where(x, u, now)
		if e != api.OK || !p.in(x, b) || b.At != u {
			t.Fatalf("Where at %d by %d = %v, %d, and it is %v of %v", u, now, b, e, p, x)
		}
		if l, agree, e := track.Fails(x, u, now); len(l) != len(x.Trackers) || !agree || e != api.OK {
			t.Fatalf("Fails at %d by %d = %v, %t, %d of %v", u, now, l, agree, e, x)
		}
		if b.X.Hi-b.X.Lo < x.Speed {
			narrow++
		}
	}
	if narrow < 500 {
		t.Errorf("%d boxes are narrow", narrow)
	}
}

// P5.9
func TestPathIsInSpareBox(t *testing.T) {
	r := rand.New(rand.NewSource(59))
	apart, outside := 0, 0
	for range 4000 {
		s := either(r)
		x, p := randomTask(r, s)
		if len(x.Trackers) == 0 {
			continue
		}
		wrong := r.Intn(len(x.Trackers))
		x = spoil(r, x, s, wrong)
		u, now := tickOf(r, x, p), nowOf(r, x, s)
		l, agree, e := track.Fails(x, u, now)
		if !slices.Contains(l, wrong) || e != api.OK {
			t.Fatalf("Fails at %d by %d = %v, %d, and %d fails of %v", u, now, l, e, wrong, x)
		}
		b, e := track.Spare(x, u, now)
		if e != api.OK || !p.in(x, b) || b.At != u {
			t.Fatalf("Spare at %d by %d = %v, %d, and it is %v of %v", u, now, b, e, p, x)
		}
		if !agree {
			apart++
		}
		if b, e := track.Where(x, u, now); e == api.OK && !p.in(x, b) {
			outside++
		}
	}
	if apart < 500 || outside < 10 {
		t.Errorf("in %d they do not agree, and %d paths are not in the box of all", apart, outside)
	}
}

// P5.10
func TestPathIsInBoxAhead(t *testing.T) {
	r := rand.New(rand.NewSource(510))
	for range 4000 {
		s := either(r)
		x, p := randomTask(r, s)
		u := tickOf(r, x, p)
		b, e := track.Spare(x, u, nowOf(r, x, s))
		if r.Intn(2) == 0 { // a box that has no more than one velocity, and one place
			place, velocity := p.at(x, u)
			for i, m := range spansOf(&b) {
				n := append(place[:], velocity[:]...)[i]
				*m = span(n, n)
			}
		}
		n := r.Intn(p.end(x) - u + 1)
		got, f := track.Ahead(x, b, n)
		if e != api.OK || f != api.OK || !p.in(x, got) || got.At != u+n {
			t.Fatalf("Ahead of %v by %d = %v, %d, and it is %v of %v", b, n, got, f, p, x)
		}
	}
}

// P5.10
func TestAheadTwice(t *testing.T) {
	r := rand.New(rand.NewSource(5101))
	ok, first, second := 0, 0, 0
	for range 5000 {
		x, _ := randomTask(r, either(r))
		b := randomBox(r, x)
		n := min([]int{r.Intn(3), r.Intn(300)}[r.Intn(2)], api.MaxTick-b.At)
		m := min(r.Intn(300), api.MaxTick-b.At-n)
		all, e := track.Ahead(x, b, n+m)
		one, f := track.Ahead(x, b, n)
		if f != api.OK {
			first++
			if e != f {
				t.Fatalf("Ahead of %v by %d: %d, and by %d: %d of %v", b, n, f, n+m, e, x)
			}
			continue
		}
		two, g := track.Ahead(x, one, m)
		if two != all || g != e {
			t.Fatalf("Ahead of %v by %d, %d = %v, %d, and by both %v, %d of %v", b, n, m, two, g, all, e, x)
		}
		if e == api.OK {
			ok++
		} else {
			second++
		}
	}
	if ok < 1000 || first < 100 || second < 10 {
		t.Errorf("%d, %d, %d", ok, first, second)
	}
}

// P5.11
func TestLaterPlotsChangeNothing(t *testing.T) {
	r := rand.New(rand.NewSource(511))
	changed := 0
	for range 2000 {
		s := either(r)
		x, p := randomTask(r, s)
		for i := range x.Trackers {
			if r.Intn(4) == 0 {
				x = spoil(r, x, s, i)
			}
		}
		u, now := tickOf(r, x, p), nowOf(r, x, s)
		y := clone(x)
		y.Plots = nil
		known, _ := track.Known(x, now)
		for i, q := range x.Plots {
			switch {
			case slices.Contains(known, i):
				y.Plots = append(y.Plots, q)
			case r.Intn(2) == 0:
				q.X, q.Y, q.Z = beside(r, far), beside(r, far), beside(r, far)
				y.Plots = append(y.Plots, q)
				changed++
			}
		}
		width := r.Intn(3 * s.err)
		from, until := max(u-10, 0), min(u+10, api.MaxTick)
		a, b := asked(t, x, u, now), asked(t, y, u, now)
		l, e := track.Gaps(x, from, until, now, width)
		m, f := track.Gaps(y, from, until, now, width)
		if a != b || !slices.Equal(l, m) || e != api.OK || f != api.OK {
			t.Fatalf("%v, %v, and %v, %v with other plots at %d by %d of %v, %v", a, l, b, m, u, now, x, y)
		}
	}
	if changed < 2000 {
		t.Errorf("%d plots are other ones", changed)
	}
}

// boxesOf returns the boxes of all trackers, of each one and the spare box, with their errors.
func boxesOf(x api.TkTask, u, now int) (l []api.TkBox, e []api.Errno) {
	keep := func(b api.TkBox, f api.Errno) { l, e = append(l, b), append(e, f) }
	keep(track.Where(x, u, now))
	for i := range x.Trackers {
		keep(track.Alone(x, i, u, now))
	}
	keep(track.Spare(x, u, now))
	return l, e
}

// P5.12: with a further plot no box of trackers becomes wider.
func TestFurtherPlot(t *testing.T) {
	r := rand.New(rand.NewSource(512))
	less, lost := 0, 0
	for range 3000 {
		s := either(r)
		x, p := randomTask(r, s)
		if len(x.Trackers) == 0 {
			continue
		}
		y := clone(x)
		by := r.Intn(len(x.Trackers))
		if !add(r, &y, p, by) {
			continue
		}
		if r.Intn(2) == 0 {
			y.Plots[len(x.Plots)].Z += beside(r, 3*s.err)
		}
		u, now := tickOf(r, x, p), min(y.Plots[len(x.Plots)].Tick+x.Trackers[by].Late+r.Intn(s.ticks), api.MaxTick)
		l, e := boxesOf(x, u, now)
		m, f := boxesOf(y, u, now)
		for i := range l[:len(l)-1] { // the spare box may have other boxes then
			switch {
			case f[i] == api.OK && (e[i] != api.OK || !liesBox(m[i], l[i])):
				t.Fatalf("%d: %v, %d, and %v, %d with a further plot at %d by %d of %v", i, l[i], e[i], m[i], f[i], u, now, y)
			case f[i] == api.OK && m[i] != l[i]:
				less++
			case f[i] != api.OK && e[i] == api.OK:
				lost++
			}
		}
	}
	if less < 1000 || lost < 100 {
		t.Errorf("%d boxes are less, %d are none", less, lost)
	}
}

// P5.12: if all agree, the box of all is in the spare box.
func TestWhereIsInSpare(t *testing.T) {
	r := rand.New(rand.NewSource(5121))
	less := 0
	for range 3000 {
		s := either(r)
		x, p := randomTask(r, s)
		if len(x.Trackers) > 0 && r.Intn(2) == 0 {
			x = spoil(r, x, s, r.Intn(len(x.Trackers)))
		}
		u, now := tickOf(r, x, p), nowOf(r, x, s)
		l, agree, _ := track.Fails(x, u, now)
		if !agree {
			continue
		}
		a, e := track.Where(x, u, now)
		b, f := track.Spare(x, u, now)
		if len(l) != len(x.Trackers) || e != api.OK || f != api.OK || !liesBox(a, b) {
			t.Fatalf("Where = %v, %d; Spare = %v, %d; Fails = %v at %d by %d of %v", a, e, b, f, l, u, now, x)
		}
		if a != b {
			less++
		}
	}
	if less < 500 {
		t.Errorf("%d boxes are less", less)
	}
}

// greater returns a task with a greater error, or a greater change.
func greater(r *rand.Rand, x api.TkTask) api.TkTask {
	y := clone(x)
	numbers := []*int{&y.Speed, &y.Accel}
	most := []int{api.MaxSpeed, api.MaxSpeed}
	for i := range y.Trackers {
		numbers = append(numbers, &y.Trackers[i].Error, &y.Trackers[i].Grow)
		most = append(most, api.MaxTkError, api.MaxTkGrow)
	}
	for range 1 + r.Intn(2) {
		i := r.Intn(len(numbers))
		*numbers[i] = min(*numbers[i]+[]int{1, 1 + r.Intn(*numbers[i]+5), most[i]}[r.Intn(3)], most[i])
	}
	return y
}

// P5.12: with a greater error, or a greater change, no box becomes less.
func TestGreater(t *testing.T) {
	r := rand.New(rand.NewSource(5122))
	more, new := 0, 0
	for range 4000 {
		s := either(r)
		x, p := randomTask(r, s)
		for i := range x.Trackers {
			if r.Intn(4) == 0 {
				x = spoil(r, x, s, i)
			}
		}
		y := greater(r, x)
		u, now := tickOf(r, x, p), nowOf(r, x, s)
		l, e := boxesOf(x, u, now)
		m, f := boxesOf(y, u, now)
		start := randomBox(r, x)
		n := min(r.Intn(50), api.MaxTick-start.At)
		keep := func(a api.TkBox, g api.Errno, b api.TkBox, h api.Errno) {
			l, e, m, f = append(l, a), append(e, g), append(m, b), append(f, h)
		}
		a, g := track.Ahead(x, start, n)
		b, h := track.Ahead(y, start, n)
		keep(a, g, b, h)
		for i := range l {
			switch {
			case e[i] == api.OK && (f[i] != api.OK || !liesBox(l[i], m[i])):
				t.Fatalf("%d: %v, %d, and %v, %d at %d by %d of %v, %v", i, l[i], e[i], m[i], f[i], u, now, x, y)
			case e[i] == api.OK && l[i] != m[i]:
				more++
			case e[i] != api.OK && f[i] == api.OK:
				new++
			}
		}
	}
	if more < 2000 || new < 200 {
		t.Errorf("%d boxes are more, %d are new", more, new)
	}
}

// P5.13
func TestBestIsLeastWide(t *testing.T) {
	r := rand.New(rand.NewSource(513))
	some, others, none := 0, 0, 0
	for range 3000 {
		s := either(r)
		x, p := randomTask(r, s)
		for i := range x.Trackers {
			if r.Intn(3) == 0 {
				x = spoil(r, x, s, i)
			}
		}
		u, now := tickOf(r, x, p), nowOf(r, x, s)
		best, e := track.Best(x, u, now)
		spare, f := track.Spare(x, u, now)
		if f != api.OK {
			if e != api.ErrDown {
				t.Fatalf("Best = %d, %d, without a spare box at %d by %d of %v", best, e, u, now, x)
			}
			continue
		}
		own, g := track.Alone(x, best, u, now)
		if e == api.OK && (g != api.OK || !touches(own, spare)) {
			t.Fatalf("Best = %d, whose box is %v, %d at %d by %d of %v", best, own, g, u, now, x)
		}
		for i := range x.Trackers {
			b, g := track.Alone(x, i, u, now)
			if g != api.OK || !touches(b, spare) {
				continue
			}
			if e != api.OK || widest(b) < widest(own) || widest(b) == widest(own) && i < best {
				t.Fatalf("Best = %d, %d, and the box of %d is %v at %d by %d of %v", best, e, i, b, u, now, x)
			}
			if i != best {
				others++
			}
		}
		if e == api.OK {
			some++
		} else {
			none++
		}
	}
	if some < 1000 || others < 1000 || none < 50 {
		t.Errorf("%d have a best source, before %d others, %d have none", some, others, none)
	}
}

// inGap reports whether a tick is in one of some gaps.
func inGap(l []api.TkGap, tick int) bool {
	return slices.ContainsFunc(l, func(g api.TkGap) bool { return g.From <= tick && tick < g.Until })
}

// P5.14
func TestGapsAreWide(t *testing.T) {
	r := rand.New(rand.NewSource(514))
	in, out, several := 0, 0, 0
	for range 1000 {
		s := either(r)
		x, p := randomTask(r, s)
		for i := range x.Trackers {
			if r.Intn(4) == 0 {
				x = spoil(r, x, s, i)
			}
		}
		from, now := tickOf(r, x, p), nowOf(r, x, s)
		until := min(from+r.Intn(2*s.ticks), api.MaxTick)
		width := r.Intn(10 * s.err)
		l, e := track.Gaps(x, from, until, now, width)
		for i, g := range l {
			if g.From >= g.Until || g.From < from || g.Until > until || i > 0 && g.From <= l[i-1].Until {
				t.Fatalf("Gaps = %v of %v", l, x)
			}
		}
		for tick := from; tick < until; tick++ {
			b, f := track.Spare(x, tick, now)
			is := f != api.OK || widest(b) > width
			if e != api.OK || inGap(l, tick) != is {
				t.Fatalf("Gaps of the width %d = %v, %d, and the box at %d is %v, %d of %v", width, l, e, tick, b, f, x)
			}
			if is {
				in++
			} else {
				out++
			}
		}
		if len(l) > 1 {
			several++
		}
		m, f := track.Gaps(x, from, until, now, width+r.Intn(5*s.err))
		for tick := from; tick < until; tick++ {
			if f != api.OK || inGap(m, tick) && !inGap(l, tick) {
				t.Fatalf("Gaps = %v, and with a greater width %v, %d of %v", l, m, f, x)
			}
		}
	}
	if in < 2000 || out < 2000 || several < 20 {
		t.Errorf("%d ticks are in gaps, %d are not; %d have several gaps", in, out, several)
	}
}

// P5.15: the arguments are as they were after all calls.
func TestArgumentsStay(t *testing.T) {
	r := rand.New(rand.NewSource(515))
	for range 500 {
		x, p := randomTask(r, either(r))
		y := clone(x)
		track.Check(x)
		everyError(x, p.end(x))
		everyError(x, 0)
		track.Gaps(x, x.From, min(x.From+20, api.MaxTick), p.end(x), 5)
		b := randomBox(r, x)
		c := b
		track.CheckBox(b)
		track.Ahead(x, b, 1)
		if !same(x, y) || b != c {
			t.Fatalf("%v, %v were %v, %v", x, b, y, c)
		}
	}
}

// P5.15: who changes a result changes neither the arguments nor a later result.
func TestResultsAreNew(t *testing.T) {
	x := example()
	for range 2 {
		known, _ := track.Known(x, 139)
		fails, _, _ := track.Fails(x, 120, 150)
		gaps, _ := track.Gaps(x, 100, 104, 150, 99)
		if !slices.Equal(known, []int{0, 1}) || !slices.Equal(fails, []int{0, 1, 2}) || !slices.Equal(gaps, []api.TkGap{gap(101, 104)}) {
			t.Errorf("%v, %v, %v", known, fails, gaps)
		}
		for _, l := range [][]int{known, fails} {
			for i := range l {
				l[i] = 7
			}
		}
		clear(gaps)
	}
	if !same(x, example()) {
		t.Errorf("%v", x)
	}
}

// oddTask returns a task in which some numbers are odd.
func oddTask(r *rand.Rand) api.TkTask {
	x, _ := randomTask(r, either(r))
	numbers := []*int{&x.From, &x.Speed, &x.Accel}
	if len(x.Trackers) > 0 {
		k := &x.Trackers[r.Intn(len(x.Trackers))]
		numbers = append(numbers, &k.X, &k.Y, &k.Error, &k.Grow, &k.Late)
	}
	if len(x.Plots) > 0 {
		p := &x.Plots[r.Intn(len(x.Plots))]
		numbers = append(numbers, &p.Tracker, &p.Tick, &p.X, &p.Y, &p.Z)
	}
	change(r, numbers...)
	return x
}

// P5.15: no arguments make a function panic, and with an error all other results are zero.
func TestAnyArguments(t *testing.T) {
	r := rand.New(rand.NewSource(5151))
	none := api.TkBox{}
	for range 20000 {
		x := oddTask(r)
		part, at, e := track.Check(x)
		if (part == 0) != (e == api.OK) || part < 2 && at != 0 {
			t.Fatalf("Check = %d, %d, %d", part, at, e)
		}
		b := randomBox(r, slow())
		change(r, &b.At, &b.X.Lo, &b.Y.Hi, &b.Z.Lo, &b.VX.Lo, &b.VX.Hi, &b.VY.Lo, &b.VZ.Hi)
		width, e1 := track.Width(x, odd(r))
		known, e2 := track.Known(x, odd(r))
		reach, e3 := track.Reach(x, odd(r))
		where, e4 := track.Where(x, odd(r), odd(r))
		alone, e5 := track.Alone(x, odd(r), odd(r), odd(r))
		fails, agree, e6 := track.Fails(x, odd(r), odd(r))
		spare, e7 := track.Spare(x, odd(r), odd(r))
		best, e8 := track.Best(x, odd(r), odd(r))
		ahead, e9 := track.Ahead(x, b, odd(r))
		gaps, e10 := track.Gaps(x, odd(r), odd(r), odd(r), odd(r))
		if e1 != api.OK && width != 0 || e2 != api.OK && len(known) > 0 || e3 != api.OK && reach != 0 || e4 != api.OK && where != none || e5 != api.OK && alone != none ||
			e6 != api.OK && (len(fails) > 0 || agree) || e7 != api.OK && spare != none || e8 != api.OK && best != 0 || e9 != api.OK && ahead != none || e10 != api.OK && len(gaps) > 0 {
			t.Fatalf("a result that is not zero with an error, of %v, %v", x, b)
		}
		track.CheckBox(b)
	}
}
