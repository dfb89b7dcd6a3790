package aim_test

import (
	"math"
	"math/rand"
	"slices"
	"testing"

	"hangfire/aim"
	"hangfire/api"
	"hangfire/wind"
)

const millionths = 1000000

// isIn reports whether a place, in millionths of a mm, is in a span of mm.
func isIn(n int, s api.Span) bool { return s.Lo*millionths <= n && n <= s.Hi*millionths }

// metresOf returns the metres that a distance in millionths of a mm begins.
func metresOf(n int) int { return (max(n, -n) + 1000*millionths - 1) / (1000 * millionths) }

// P3.7
func TestComesDownInImpact(t *testing.T) {
	r := rand.New(rand.NewSource(37))
	in := 0
	for range 2000 {
		x := randomTask(r)
		allowed, _ := aim.Allowed(x.t, x.l)
		for i, s := range x.t.Settings {
			a, _ := aim.Impact(x.t, x.l, i)
			miss, _ := aim.Miss(x.t, x.l, i)
			for range 5 {
				// Thousandths of a mm, which Scale makes millionths of a mm.
				var wx, wy int
				for _, b := range x.t.Response {
					mx, my := meanOf(b, x.l)
					k := pick(r, b.K)
					wx, wy = wx+k*pick(r, mx), wy+k*pick(r, my)
				}
				px := pick(r, s.Area.X)*millionths + wx*s.Scale
				py := pick(r, s.Area.Y)*millionths + wy*s.Scale
				if !isIn(px, a.X) || !isIn(py, a.Y) {
					t.Fatalf("it comes down at %d, %d, and not in %v of %v", px, py, a, x)
				}
				if !slices.Contains(allowed, i) {
					continue
				}
				in++
				dx, dy := metresOf(px-x.t.Target.X*millionths), metresOf(py-x.t.Target.Y*millionths)
				if !isIn(px, x.t.Allowed.X) || !isIn(py, x.t.Allowed.Y) || dx*dx+dy*dy > miss {
					t.Fatalf("it comes down at %d, %d with the miss %d, %d of %v", px, py, dx, dy, x)
				}
			}
		}
	}
	if in < 3000 {
		t.Errorf("%d are allowed", in)
	}
}

// P3.8
func TestAcceptedIsBest(t *testing.T) {
	r := rand.New(rand.NewSource(38))
	accepted, other := 0, 0
	for range 3000 {
		x := randomTask(r)
		s := see(x)
		best, e := aim.Best(x.t, x.l)
		if e == api.OK {
			if at, e := aim.Accept(x.t, x.l, best); at != 0 || e != api.OK {
				t.Fatalf("Accept = %d, %d of %v, %v", at, e, x, best)
			}
		}
		for range 10 {
			c := randomChoice(r, x, s)
			if _, e := aim.Accept(x.t, x.l, c); e != api.OK {
				continue
			}
			accepted++
			if !sameChoice(c, best) {
				other++
			}
			if e != api.OK || c.Setting != best.Setting || c.Miss != best.Miss {
				t.Fatalf("%v is accepted, and Best = %v, %d of %v", c, best, e, x)
			}
			for _, i := range s.allowed {
				if s.misses[i] < c.Miss || s.misses[i] == c.Miss && i < c.Setting {
					t.Fatalf("%v is accepted, and %d has the miss %d of %v", c, i, s.misses[i], x)
				}
			}
		}
	}
	if accepted < 3000 || other < 300 {
		t.Errorf("%d are accepted, %d of them not those of Best", accepted, other)
	}
}

// wider returns bands that cover those of a task, often with other cuts.
func wider(r *rand.Rand, x task) []api.WnBand {
	l := slices.Clone(x.l)
	for i := range l {
		l[i].X = span(l[i].X.Lo-r.Intn(30), l[i].X.Hi+r.Intn(30))
		l[i].Y = span(l[i].Y.Lo-r.Intn(30), l[i].Y.Hi+r.Intn(30))
	}
	if i := r.Intn(len(l)); r.Intn(2) == 0 {
		above := l[i]
		above.From += 5
		l[i].To = above.From
		l = slices.Insert(l, i+1, above)
	} else if i > 0 {
		l[i-1].X = span(min(l[i-1].X.Lo, l[i].X.Lo), max(l[i-1].X.Hi, l[i].X.Hi))
		l[i-1].Y = span(min(l[i-1].Y.Lo, l[i].Y.Lo), max(l[i-1].Y.Hi, l[i].Y.Hi))
		l[i-1].To = l[i].To
		l = slices.Delete(l, i, i+1)
	}
	return l
}

// P3.9
func TestBetterWinds(t *testing.T) {
	r := rand.New(rand.NewSource(39))
	both, lost := 0, 0
	for range 3000 {
		x := randomTask(r)
		w := task{x.t, wider(r, x)}
		if is, e := wind.Covers(w.l, x.l); !is || e != api.OK {
			t.Fatalf("Covers = %t, %d of %v, %v", is, e, w.l, x.l)
		}
		for i := range x.t.Settings {
			a, _ := aim.Impact(x.t, x.l, i)
			b, _ := aim.Impact(w.t, w.l, i)
			if !liesArea(a, b) {
				t.Fatalf("Impact of %d = %v, and %v by %v of %v", i, a, b, w.l, x)
			}
		}
		a, _ := aim.Allowed(x.t, x.l)
		b, _ := aim.Allowed(w.t, w.l)
		for _, i := range b {
			if !slices.Contains(a, i) {
				t.Fatalf("Allowed = %v, and %v by %v of %v", a, b, w.l, x)
			}
		}
		lost += len(a) - len(b)
		if len(b) > 0 {
			both++
			p, e := aim.Best(x.t, x.l)
			q, f := aim.Best(w.t, w.l)
			if e != api.OK || f != api.OK || p.Miss > q.Miss {
				t.Fatalf("Best = %v, %d, and %v, %d by %v of %v", p, e, q, f, w.l, x)
			}
		}
	}
	if both < 500 || lost < 100 {
		t.Errorf("%d have a best setting, %d are lost", both, lost)
	}
}

// P3.10
func TestRoundsDoNotForesee(t *testing.T) {
	r := rand.New(rand.NewSource(310))
	changed, set := 0, 0
	for range 2000 {
		x, w, launch := randomTask(r).t, randomWinds(r), r.Intn(endTick)
		nows := randomNows(r, launch)
		all, e := aim.Rounds(x, w, launch, nows)
		if e != api.OK {
			t.Fatalf("Rounds: %d", e)
		}
		n := r.Intn(len(nows) + 1)
		// Other ticks behind the first n ones, and other soundings that are not known at these.
		other := slices.Clone(nows[:n])
		if r.Intn(2) == 0 {
			other = append(other, launch, launch)
		}
		u := cloneWinds(w)
		for i := range u.Soundings {
			if !isKnown(w, i, nows[:n]) {
				changed++
				u.Soundings[i].X, u.Soundings[i].Y = beside(r, 20000), beside(r, 20000)
			}
		}
		l, e := aim.Rounds(x, u, launch, other)
		if e != api.OK || !slices.Equal(l[:n], all[:n]) {
			t.Fatalf("Rounds = %v, %d, and %v of %v, %v, %v", l, e, all, x, w, u)
		}
		for _, round := range l[:n] {
			if round.Set {
				set++
			}
		}
	}
	if changed < 1000 || set < 200 {
		t.Errorf("%d soundings are other ones, %d are set", changed, set)
	}
}

// isKnown reports whether a sounding is known at one of some ticks.
func isKnown(w api.WnTask, sounding int, nows []int) bool {
	for _, now := range nows {
		if l, _ := wind.Known(w, now); slices.Contains(l, sounding) {
			return true
		}
	}
	return false
}

// P3.11, P3.12
func TestBehindRound(t *testing.T) {
	r := rand.New(rand.NewSource(311))
	behind, late, lost := 0, 0, 0
	for range 3000 {
		x, w, launch := randomTask(r).t, randomWinds(r), r.Intn(endTick)
		nows := randomNows(r, launch)
		l, e := aim.Rounds(x, w, launch, nows)
		if e != api.OK || len(l) != len(nows) {
			t.Fatalf("Rounds = %v, %d", l, e)
		}
		before := -1
		for i, round := range l {
			inTime := nows[i]+x.Turn+x.Freeze <= launch
			if round.Now != nows[i] || round.Set && !inTime || (round.Setting < 0) && round.Miss >= 0 {
				t.Fatalf("%v of %v, %d", round, x, launch)
			}
			if !inTime && round.Setting != before {
				lost++
				if round.Setting != -1 {
					t.Fatalf("%v behind %d of %v, %d", round, before, x, launch)
				}
			}
			before = round.Setting
			if round.Miss < 0 {
				continue
			}
			behind++
			bands, _ := wind.Bands(w, launch, nows[i])
			miss, _ := aim.Miss(x, bands, round.Setting)
			if allowed, _ := aim.Allowed(x, bands); miss != round.Miss || !slices.Contains(allowed, round.Setting) {
				t.Fatalf("%v, and it has the miss %d, and %v are allowed of %v, %v", round, miss, allowed, x, bands)
			}
			best, _ := aim.Best(x, bands)
			if inTime && best.Miss+x.Gain < round.Miss {
				t.Fatalf("%v, and the best one is %v of %v, %v", round, best, x, bands)
			}
			if !inTime && best.Miss+x.Gain < round.Miss {
				late++
			}
		}
	}
	if behind < 1000 || late < 50 || lost < 50 {
		t.Errorf("%d are told, %d too late, %d lost too late", behind, late, lost)
	}
}

// moved returns a task whose Target, Allowed and Areas are moved.
func moved(t api.AmTask, x, y int) api.AmTask {
	t = clone(t)
	move := func(a *api.Area) {
		a.X, a.Y = span(a.X.Lo+x, a.X.Hi+x), span(a.Y.Lo+y, a.Y.Hi+y)
	}
	for i := range t.Settings {
		move(&t.Settings[i].Area)
	}
	move(&t.Allowed)
	t.Target = api.Place{X: t.Target.X + x, Y: t.Target.Y + y}
	return t
}

// P3.13
func TestMoved(t *testing.T) {
	r := rand.New(rand.NewSource(313))
	n, more := 0, 0
	for range 3000 {
		x := randomTask(r)
		y := moved(x.t, beside(r, 100000), beside(r, 100000))
		a, ae := aim.Best(x.t, x.l)
		b, be := aim.Best(y, x.l)
		if !sameChoice(a, b) || ae != be {
			t.Fatalf("Best = %v, %d, and %v, %d of %v, %v", a, ae, b, be, x, y)
		}
		if ae == api.OK {
			n++
		}
		z := clone(x.t)
		z.Allowed.X = span(z.Allowed.X.Lo-r.Intn(5000), z.Allowed.X.Hi+r.Intn(5000))
		z.Allowed.Y = span(z.Allowed.Y.Lo-r.Intn(5000), z.Allowed.Y.Hi+r.Intn(5000))
		few, _ := aim.Allowed(x.t, x.l)
		many, e := aim.Allowed(z, x.l)
		more += len(many) - len(few)
		for _, i := range few {
			if e != api.OK || !slices.Contains(many, i) {
				t.Fatalf("Allowed = %v, and %v, %d of %v, %v", few, many, e, x, z)
			}
		}
	}
	if n < 500 || more < 100 {
		t.Errorf("%d have a best setting, %d more are allowed", n, more)
	}
}

// P3.14: the arguments are as they were after all calls.
func TestArgumentsStay(t *testing.T) {
	r := rand.New(rand.NewSource(3141))
	for range 300 {
		x, w, launch := randomTask(r), randomWinds(r), r.Intn(endTick)
		nows := randomNows(r, launch)
		s := see(x)
		c := randomChoice(r, x, s)
		before, winds, ticks, kept := x.clone(), cloneWinds(w), slices.Clone(nows), cloneChoice(c)
		aim.Check(x.t)
		aim.Weigh(x.t, x.l)
		aim.Impact(x.t, x.l, 0)
		aim.Allowed(x.t, x.l)
		aim.Miss(x.t, x.l, 0)
		aim.Best(x.t, x.l)
		aim.Accept(x.t, x.l, c)
		aim.Rounds(x.t, w, launch, nows)
		if !same(x.t, before.t) || !slices.Equal(x.l, before.l) || !sameWinds(w, winds) || !slices.Equal(nows, ticks) || !sameChoice(c, kept) {
			t.Fatalf("%v, %v, %v, %v were %v, %v, %v, %v", x, w, nows, c, before, winds, ticks, kept)
		}
	}
}

// P3.14: who changes a result changes neither the arguments nor a later result.
func TestResultsAreNew(t *testing.T) {
	x, l, w, nows := example(), exampleBands(), exampleWinds(), []int{0, 1000, 1600, 2200}
	allowed, _ := aim.Allowed(x, l)
	best, _ := aim.Best(x, l)
	rounds, _ := aim.Rounds(x, w, 2200, nows)
	keptAllowed, keptBest, keptRounds := slices.Clone(allowed), cloneChoice(best), slices.Clone(rounds)
	clear(allowed)
	clear(best.Others)
	clear(rounds)
	if !same(x, example()) || !slices.Equal(l, exampleBands()) || !sameWinds(w, exampleWinds()) || !slices.Equal(nows, []int{0, 1000, 1600, 2200}) {
		t.Errorf("%v, %v, %v, %v", x, l, w, nows)
	}
	allowed, _ = aim.Allowed(x, l)
	best, _ = aim.Best(x, l)
	rounds, _ = aim.Rounds(x, w, 2200, nows)
	if !slices.Equal(allowed, keptAllowed) || !sameChoice(best, keptBest) || !slices.Equal(rounds, keptRounds) {
		t.Errorf("%v, %v, %v", allowed, best, rounds)
	}
}

// odd returns a number that is often beyond all limits.
func odd(r *rand.Rand) int {
	return []int{math.MinInt, math.MinInt + 1, -api.MaxAmPlace - 1, -api.MaxAmPlace, -1, 0, 1, 2, api.MaxTick, api.MaxAmWeight, api.MaxAmPlace, api.MaxAmGain + 1, math.MaxInt - 1, math.MaxInt, r.Intn(1000), int(r.Uint64())}[r.Intn(16)]
}

// oddTask returns a task in which some numbers are odd.
func oddTask(r *rand.Rand) task {
	x := randomTask(r)
	k := &x.t.Response[r.Intn(len(x.t.Response))]
	s := &x.t.Settings[r.Intn(len(x.t.Settings))]
	b := &x.l[r.Intn(len(x.l))]
	for range r.Intn(3) {
		numbers := []*int{
			&k.From, &k.To, &k.K.Lo, &k.K.Hi, &s.Area.X.Lo, &s.Area.X.Hi, &s.Area.Y.Lo, &s.Area.Y.Hi, &s.Scale,
			&x.t.Target.X, &x.t.Target.Y, &x.t.Allowed.X.Lo, &x.t.Allowed.X.Hi, &x.t.Allowed.Y.Lo, &x.t.Allowed.Y.Hi, &x.t.Gain, &x.t.Turn, &x.t.Freeze,
			&b.From, &b.To, &b.X.Lo, &b.X.Hi, &b.Y.Lo, &b.Y.Hi,
		}
		*numbers[r.Intn(len(numbers))] = odd(r)
	}
	switch r.Intn(20) {
	case 0:
		x.t.Response = nil
	case 1:
		x.t.Settings = nil
	case 2:
		x.l = nil
	}
	return x
}

// P3.14: no arguments make a function panic, and with an error all other results are zero.
func TestAnyArguments(t *testing.T) {
	r := rand.New(rand.NewSource(3142))
	for range 10000 {
		x, w := oddTask(r), randomWinds(r)
		part, at, e := aim.Check(x.t)
		if (part == 0) != (e == api.OK) || e == api.OK && at != 0 {
			t.Fatalf("Check = %d, %d, %d", part, at, e)
		}
		c := choice(odd(r), odd(r))
		if len(x.t.Settings) > 0 && r.Intn(2) == 0 {
			c.Setting = r.Intn(len(x.t.Settings))
			c.Miss, _ = aim.Miss(x.t, x.l, c.Setting)
		}
		for range x.t.Settings {
			c.Others = append(c.Others, api.AmReason{Kind: r.Intn(5) - 1, At: odd(r)})
		}
		if len(w.Soundings) > 0 && r.Intn(4) == 0 {
			w.Soundings[0].X = odd(r)
		}
		wx, wy, e1 := aim.Weigh(x.t, x.l)
		a, e2 := aim.Impact(x.t, x.l, odd(r))
		allowed, e3 := aim.Allowed(x.t, x.l)
		miss, e4 := aim.Miss(x.t, x.l, odd(r))
		best, e5 := aim.Best(x.t, x.l)
		at, e6 := aim.Accept(x.t, x.l, c)
		rounds, e7 := aim.Rounds(x.t, w, odd(r), []int{odd(r), odd(r)})
		if e1 != api.OK && (wx != api.Span{} || wy != api.Span{}) || e2 != api.OK && a != (api.Area{}) || e3 != api.OK && len(allowed) > 0 || e4 != api.OK && miss != 0 ||
			e5 != api.OK && !sameChoice(best, api.AmChoice{}) || e6 != api.AmErrReason && at != 0 || e7 != api.OK && len(rounds) > 0 {
			t.Fatalf("a result that is not zero with an error, of %v", x)
		}
	}
}
