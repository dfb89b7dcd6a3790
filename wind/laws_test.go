package wind_test

import (
	"math"
	"math/rand"
	"slices"
	"testing"

	"hangfire/api"
	"hangfire/wind"
)

// heightsIn returns some heights of a band, with both ends.
func heightsIn(r *rand.Rand, from, to int) []int {
	return []int{from, to - 1, from + r.Intn(to-from), from + r.Intn(to-from)}
}

// P1.9
func TestWindIsInSpans(t *testing.T) {
	r := rand.New(rand.NewSource(19))
	for range 3000 {
		x, w := randomTask(r)
		tick, now := r.Intn(endTick), r.Intn(endTick)
		l, e := wind.Bands(x, tick, now)
		if e != api.OK {
			t.Fatalf("Bands: %d of %v", e, x)
		}
		for i, b := range l {
			if blame, agree, e := wind.Blame(x, i, tick, now); len(blame) != 0 || !agree || e != api.OK {
				t.Fatalf("Blame = %v, %t, %d of %v", blame, agree, e, x)
			}
			for _, h := range heightsIn(r, b.From, b.To) {
				if !has(b.X, w.wind(0, tick, h)) || !has(b.Y, w.wind(1, tick, h)) {
					t.Fatalf("the wind at %d is not in %v of %v", h, b, x)
				}
				p, q, e := wind.At(x, h, tick, now)
				if e != api.OK || !has(p, w.wind(0, tick, h)) || !has(q, w.wind(1, tick, h)) {
					t.Fatalf("the wind at %d is not in %v, %v, %d of %v", h, p, q, e, x)
				}
			}
		}
	}
}

// P1.10
func TestWrongSourceIsToBlame(t *testing.T) {
	r := rand.New(rand.NewSource(110))
	blamed, alone := 0, 0
	for range 3000 {
		x, w := randomTask(r)
		bad := r.Intn(len(x.Sources))
		x = spoil(r, x, bad)
		tick, now := r.Intn(endTick), r.Intn(endTick)
		height := r.Intn(endHeight)
		// The bands of u have one that is this height alone.
		u, i := at(x, height)
		l, agree, e := wind.Blame(u, i, tick, now)
		if e != api.OK || agree && len(l) != 0 || !agree && !slices.Contains(l, bad) {
			t.Fatalf("Blame = %v, %t, %d, and not %d of %v", l, agree, e, bad, u)
		}
		if agree {
			continue
		}
		blamed++
		p, q, e := wind.At(x, height, tick, now)
		if len(l) > 1 {
			if e != api.ErrDown {
				t.Fatalf("At = %v, %v, %d of %v", p, q, e, x)
			}
			continue
		}
		alone++
		if e != api.OK || !has(p, w.wind(0, tick, height)) || !has(q, w.wind(1, tick, height)) {
			t.Fatalf("the wind at %d is not in %v, %v, %d of %v", height, p, q, e, x)
		}
	}
	if alone < 100 || blamed-alone < 100 {
		t.Errorf("%d to blame, %d of them alone", blamed, alone)
	}
}

// P1.10, for bands.
func TestWrongSourceOfBands(t *testing.T) {
	r := rand.New(rand.NewSource(1101))
	alone := 0
	for range 3000 {
		x, w := randomTask(r)
		bad := r.Intn(len(x.Sources))
		x = spoil(r, x, bad)
		tick, now := r.Intn(endTick), r.Intn(endTick)
		bands, be := wind.Bands(x, tick, now)
		for i, to := range x.Cuts {
			l, agree, _ := wind.Blame(x, i, tick, now)
			if !agree && !slices.Contains(l, bad) {
				t.Fatalf("Blame = %v, and not %d of %v", l, bad, x)
			}
			if agree || len(l) != 1 || be != api.OK {
				continue
			}
			alone++
			for _, h := range heightsIn(r, bands[i].From, to) {
				if !has(bands[i].X, w.wind(0, tick, h)) || !has(bands[i].Y, w.wind(1, tick, h)) {
					t.Fatalf("the wind at %d is not in %v of %v", h, bands[i], x)
				}
			}
		}
	}
	if alone < 100 {
		t.Errorf("%d alone to blame", alone)
	}
}

// sameAnswers compares what two tasks with the same sources and cuts say.
func sameAnswers(t *testing.T, a, b api.WnTask, height, tick, now int) {
	for i := range a.Cuts {
		for j := range a.Sources {
			ax, ay, ae := wind.Says(a, j, i, tick, now)
			bx, by, be := wind.Says(b, j, i, tick, now)
			if ax != bx || ay != by || ae != be {
				t.Fatalf("Says = %v, %v, %d and %v, %v, %d of %v and %v", ax, ay, ae, bx, by, be, a, b)
			}
		}
		al, aa, ae := wind.Blame(a, i, tick, now)
		bl, ba, be := wind.Blame(b, i, tick, now)
		if !slices.Equal(al, bl) || aa != ba || ae != be {
			t.Fatalf("Blame = %v, %t, %d and %v, %t, %d of %v and %v", al, aa, ae, bl, ba, be, a, b)
		}
	}
	ax, ay, ae := wind.At(a, height, tick, now)
	bx, by, be := wind.At(b, height, tick, now)
	if ax != bx || ay != by || ae != be {
		t.Fatalf("At = %v, %v, %d and %v, %v, %d of %v and %v", ax, ay, ae, bx, by, be, a, b)
	}
	al, ae := wind.Bands(a, tick, now)
	bl, be := wind.Bands(b, tick, now)
	if !slices.Equal(al, bl) || ae != be {
		t.Fatalf("Bands = %v, %d and %v, %d of %v and %v", al, ae, bl, be, a, b)
	}
}

// P1.11
func TestUnknownChangesNothing(t *testing.T) {
	r := rand.New(rand.NewSource(111))
	left := 0
	for range 3000 {
		x, _ := randomTask(r)
		x = spoil(r, x, r.Intn(len(x.Sources)))
		height, tick, now := r.Intn(endHeight), r.Intn(endTick), r.Intn(endTick)
		known, e := wind.Known(x, now)
		if e != api.OK {
			t.Fatalf("Known: %d", e)
		}
		left += len(x.Soundings) - len(known)
		sameAnswers(t, x, only(x, known), height, tick, now)
		other := clone(x)
		for i := range other.Soundings {
			if !slices.Contains(known, i) {
				other.Soundings[i].X, other.Soundings[i].Y = r.Intn(40001)-20000, r.Intn(40001)-20000
			}
		}
		sameAnswers(t, x, other, height, tick, now)
	}
	if left < 1000 {
		t.Errorf("%d are not known", left)
	}
}

// allAgree reports whether the sources agree for all bands.
func allAgree(t *testing.T, x api.WnTask, tick, now int) bool {
	for i := range x.Cuts {
		_, agree, e := wind.Blame(x, i, tick, now)
		if e != api.OK {
			t.Fatalf("Blame: %d of %v", e, x)
		}
		if !agree {
			return false
		}
	}
	return true
}

// notNarrower checks that all sources of b agree, and that no span of b, for its tick, is narrower than that of a, whose sources agree.
func notNarrower(t *testing.T, a, b api.WnTask, aTick, bTick, now int) {
	if !allAgree(t, b, bTick, now) {
		t.Fatalf("the sources do not agree for %d of %v", bTick, b)
	}
	al, ae := wind.Bands(a, aTick, now)
	bl, be := wind.Bands(b, bTick, now)
	if ae != api.OK || be != api.OK {
		t.Fatalf("Bands: %d and %d of %v and %v", ae, be, a, b)
	}
	if is, e := wind.Covers(bl, al); !is || e != api.OK {
		t.Fatalf("Bands = %v and %v of %v and %v", al, bl, a, b)
	}
	for i := range a.Cuts {
		for j := range a.Sources {
			ax, ay, ae := wind.Says(a, j, i, aTick, now)
			bx, by, be := wind.Says(b, j, i, bTick, now)
			if be == api.ErrDown || be == api.OK && (ae != api.OK || !lies(ax, bx) || !lies(ay, by)) {
				t.Fatalf("Says = %v, %v, %d and %v, %v, %d of %v and %v", ax, ay, ae, bx, by, be, a, b)
			}
		}
	}
}

// P1.12
func TestAgeing(t *testing.T) {
	r := rand.New(rand.NewSource(112))
	n := 0
	for range 3000 {
		x, _ := randomTask(r)
		if r.Intn(2) == 0 {
			x = spoil(r, x, r.Intn(len(x.Sources)))
		}
		now := r.Intn(endTick)
		tick := now + r.Intn(2000)
		later := tick + r.Intn(2000)
		if u, i := at(x, r.Intn(endHeight)); allAgree(t, u, tick, now) {
			n++
			notNarrower(t, u, u, tick, later, now)
			ax, ay, ae := wind.At(u, u.Cuts[i]-1, tick, now)
			bx, by, be := wind.At(u, u.Cuts[i]-1, later, now)
			if ae != api.OK || be != api.OK || !lies(ax, bx) || !lies(ay, by) {
				t.Fatalf("At = %v, %v, %d and %v, %v, %d of %v", ax, ay, ae, bx, by, be, u)
			}
		}
		if allAgree(t, x, tick, now) {
			notNarrower(t, x, x, tick, later, now)
		}
	}
	if n < 500 {
		t.Errorf("%d agree", n)
	}
}

// P1.13
func TestLess(t *testing.T) {
	r := rand.New(rand.NewSource(113))
	n := 0
	for range 3000 {
		x, _ := randomTask(r)
		tick, now := r.Intn(endTick), r.Intn(endTick)
		if len(x.Soundings) == 0 {
			continue
		}
		if r.Intn(2) == 0 {
			x = spoil(r, x, r.Intn(len(x.Sources)))
		}
		if !allAgree(t, x, tick, now) {
			continue
		}
		n++
		less := clone(x)
		i := r.Intn(len(less.Soundings))
		less.Soundings = slices.Delete(less.Soundings, i, i+1)
		notNarrower(t, x, less, tick, tick, now)
	}
	if n < 500 {
		t.Errorf("%d agree", n)
	}
}

// P1.14
func TestFiner(t *testing.T) {
	r := rand.New(rand.NewSource(1141))
	single, cut := 0, 0
	for range 3000 {
		x, _ := randomTask(r)
		if r.Intn(2) == 0 {
			x = spoil(r, x, r.Intn(len(x.Sources)))
		}
		tick, now := r.Intn(endTick), r.Intn(endTick)
		last := x.Cuts[len(x.Cuts)-1]
		height := r.Intn(last)
		i, _ := slices.BinarySearch(x.Cuts, height+1)
		u, j := at(x, height)
		if _, agree, _ := wind.Blame(u, j, tick, now); agree {
			single++
			if _, agree, _ := wind.Blame(x, i, tick, now); !agree {
				t.Fatalf("the sources agree at %d, and not for the band %d of %v", height, i, x)
			}
			if l, e := wind.Bands(x, tick, now); e == api.OK {
				p, q, e := wind.At(x, height, tick, now)
				if e != api.OK || !lies(p, l[i].X) || !lies(q, l[i].Y) {
					t.Fatalf("At = %v, %v, %d, and the band is %v of %v", p, q, e, l[i], x)
				}
			}
		}
		finer := clone(x)
		if !slices.Contains(x.Cuts, height) && height > 0 {
			finer.Cuts = slices.Insert(finer.Cuts, i, height)
		}
		if allAgree(t, finer, tick, now) {
			cut++
			a, ae := wind.Bands(x, tick, now)
			b, be := wind.Bands(finer, tick, now)
			if is, e := wind.Covers(a, b); !allAgree(t, x, tick, now) || ae != api.OK || be != api.OK || !is || e != api.OK {
				t.Fatalf("%v, %d do not cover %v, %d of %v", a, ae, b, be, finer)
			}
		}
		if l, e := wind.Bands(x, tick, now); e == api.OK {
			if at, e := wind.CheckBands(l); at != 0 || e != api.OK {
				t.Fatalf("CheckBands of %v = %d, %d", l, at, e)
			}
		}
	}
	if single < 500 || cut < 500 {
		t.Errorf("%d heights, %d cuts", single, cut)
	}
}

// P1.17: the arguments are as they were after all calls.
func TestArgumentsStay(t *testing.T) {
	r := rand.New(rand.NewSource(1171))
	for range 200 {
		x, _ := randomTask(r)
		before := clone(x)
		height, tick, now := r.Intn(endHeight), r.Intn(endTick), r.Intn(endTick)
		wind.Check(x)
		wind.Known(x, now)
		wind.Doubt(x, 0, height, tick)
		wind.Says(x, 0, 0, tick, now)
		wind.Blame(x, 0, tick, now)
		wind.At(x, height, tick, now)
		wind.Bands(x, tick, now)
		b, _ := wind.Write(x)
		if !same(x, before) {
			t.Fatalf("%v was %v", x, before)
		}
		c := slices.Clone(b)
		wind.Read(b)
		if !slices.Equal(b, c) {
			t.Fatalf("%v was %v", b, c)
		}
		l := randomBands(r)
		m := randomBands(r)
		lc, mc := slices.Clone(l), slices.Clone(m)
		wind.CheckBands(l)
		wind.Over(l, height)
		wind.Covers(l, m)
		if !slices.Equal(l, lc) || !slices.Equal(m, mc) {
			t.Fatalf("%v, %v were %v, %v", l, m, lc, mc)
		}
	}
}

// P1.17: who changes a result changes neither the arguments nor a later result.
func TestResultsAreNew(t *testing.T) {
	x := example()
	b, _ := wind.Write(x)
	first, _ := wind.Read(b)
	clear(b)
	if !same(first, x) {
		t.Errorf("Read = %v", first)
	}
	b, _ = wind.Write(x)
	kept := slices.Clone(b)
	read, _ := wind.Read(b)
	read.Sources[0].Name, read.Soundings[0].X, read.Cuts[0] = "else", 7, 7
	known, _ := wind.Known(x, 2200)
	blame, _, _ := wind.Blame(x, 0, 2200, 2200)
	bands, _ := wind.Bands(x, 2200, 2200)
	clear(known)
	clear(blame)
	clear(bands)
	if !slices.Equal(b, kept) || !same(x, example()) {
		t.Errorf("%v, %v", b, x)
	}
	known, _ = wind.Known(x, 2200)
	bands, _ = wind.Bands(x, 2200, 2200)
	again, _ := wind.Read(b)
	if !slices.Equal(known, []int{0, 1, 2, 3}) || bands[0].To != 200000 || !same(again, x) {
		t.Errorf("%v, %v, %v", known, bands, again)
	}
}

// odd returns a number that is often beyond all limits.
func odd(r *rand.Rand) int {
	return []int{math.MinInt, math.MinInt + 1, -1, 0, 1, 2, api.MaxTick, api.MaxTick + 1, api.MaxWnHeight, math.MaxInt - 1, math.MaxInt, r.Intn(1000), int(r.Uint64())}[r.Intn(13)]
}

// oddTask returns a task in which some numbers are odd.
func oddTask(r *rand.Rand) api.WnTask {
	x, _ := randomTask(r)
	for range r.Intn(3) {
		numbers := []*int{&x.Age, &x.Shear, &x.Cuts[r.Intn(len(x.Cuts))]}
		s := &x.Sources[r.Intn(len(x.Sources))]
		numbers = append(numbers, &s.Kind, &s.Error, &s.Late, &s.Life, &s.Low, &s.High)
		if len(x.Soundings) > 0 {
			s := &x.Soundings[r.Intn(len(x.Soundings))]
			numbers = append(numbers, &s.Source, &s.Tick, &s.Height, &s.X, &s.Y)
		}
		*numbers[r.Intn(len(numbers))] = odd(r)
	}
	return x
}

// P1.17: no arguments make a function panic, and with an error all other results are zero.
func TestAnyArguments(t *testing.T) {
	r := rand.New(rand.NewSource(1172))
	for range 20000 {
		x := oddTask(r)
		part, at, e := wind.Check(x)
		if (part == 0) != (e == api.OK) || e == api.OK && at != 0 {
			t.Fatalf("Check = %d, %d, %d", part, at, e)
		}
		known, e1 := wind.Known(x, odd(r))
		doubt, e2 := wind.Doubt(x, odd(r), odd(r), odd(r))
		sx, sy, e3 := wind.Says(x, odd(r), odd(r), odd(r), odd(r))
		blame, agree, e4 := wind.Blame(x, odd(r), odd(r), odd(r))
		ax, ay, e5 := wind.At(x, odd(r), odd(r), odd(r))
		bands, e6 := wind.Bands(x, odd(r), odd(r))
		file, e7 := wind.Write(x)
		if e1 != api.OK && len(known) > 0 || e2 != api.OK && doubt != 0 || e3 != api.OK && (sx != none || sy != none) || e4 != api.OK && (len(blame) > 0 || agree) ||
			e5 != api.OK && (ax != none || ay != none) || e6 != api.OK && len(bands) > 0 || e7 != api.OK && len(file) > 0 {
			t.Fatalf("a result that is not zero with an error, of %v", x)
		}
	}
	for range 20000 {
		l := randomBands(r)
		for range r.Intn(3) {
			b := &l[r.Intn(len(l))]
			*[]*int{&b.From, &b.To, &b.X.Lo, &b.X.Hi, &b.Y.Lo, &b.Y.Hi}[r.Intn(6)] = odd(r)
		}
		wind.CheckBands(l)
		if x, y, e := wind.Over(l, odd(r)); e != api.OK && (x != none || y != none) {
			t.Fatalf("Over = %v, %v, %d", x, y, e)
		}
		if is, e := wind.Covers(l, randomBands(r)); is && e != api.OK {
			t.Fatalf("Covers = %t, %d", is, e)
		}
		b := make([]byte, r.Intn(60))
		r.Read(b)
		if r.Intn(2) == 0 {
			b = append([]byte("WIND\x01"), b...)
		}
		if x, e := wind.Read(b); e != api.OK && !same(x, api.WnTask{}) {
			t.Fatalf("Read = %v, %d", x, e)
		}
	}
}
