package aim_test

import (
	"math/big"
	"math/rand"
	"slices"
	"testing"

	"hangfire/aim"
	"hangfire/api"
	"hangfire/wind"
)

// This file reads the definitions a second time, height by height and with fractions.

// meanOf returns the mean wind in the heights of a weight: that of all these heights.
func meanOf(b api.AmBand, l []api.WnBand) (x, y api.Span) {
	for h := b.From; h < b.To; h++ {
		wx, wy, _ := wind.Over(l, h)
		if h == b.From {
			x, y = wx, wy
		}
		x = span(min(x.Lo, wx.Lo), max(x.Hi, wx.Hi))
		y = span(min(y.Lo, wy.Lo), max(y.Hi, wy.Hi))
	}
	return x, y
}

// productOf returns the least and the greatest product of numbers of two spans: of these ends, sorted.
func productOf(a, b api.Span) api.Span {
	l := []int{a.Hi * b.Hi, a.Hi * b.Lo, a.Lo * b.Hi, a.Lo * b.Lo}
	slices.Sort(l)
	return span(l[0], l[3])
}

func weighed(x task) (w api.Area) {
	for _, b := range x.t.Response {
		wx, wy := meanOf(b, x.l)
		px, py := productOf(b.K, wx), productOf(b.K, wy)
		w = area(span(w.X.Lo+px.Lo, w.X.Hi+px.Hi), span(w.Y.Lo+py.Lo, w.Y.Hi+py.Hi))
	}
	return w
}

// million divides by 1000000, rounded down or up.
func million(n int, up bool) int {
	q, m := new(big.Int).DivMod(big.NewInt(int64(n)), big.NewInt(1000000), new(big.Int))
	if up && m.Sign() > 0 {
		q.Add(q, big.NewInt(1))
	}
	return int(q.Int64())
}

func impactOf(s api.AmSetting, w api.Area) api.Area {
	part := func(a, b api.Span) api.Span {
		return span(a.Lo+million(b.Lo*s.Scale, false), a.Hi+million(b.Hi*s.Scale, true))
	}
	return area(part(s.Area.X, w.X), part(s.Area.Y, w.Y))
}

// metres counts the metres that a distance begins.
func metres(a, b int) int {
	n := 0
	for d := max(a, b) - min(a, b); d > 0; d -= 1000 {
		n++
	}
	return n
}

func missOf(t api.AmTask, x, y int) int {
	dx, dy := metres(x, t.Target.X), metres(y, t.Target.Y)
	return dx*dx + dy*dy
}

func cornersOf(t api.AmTask, a api.Area) []int {
	return []int{missOf(t, a.X.Lo, a.Y.Lo), missOf(t, a.X.Hi, a.Y.Lo), missOf(t, a.X.Lo, a.Y.Hi), missOf(t, a.X.Hi, a.Y.Hi)}
}

func sidesOf(t api.AmTask, a api.Area) []bool {
	in := t.Allowed
	return []bool{a.X.Lo < in.X.Lo, a.X.Hi > in.X.Hi, a.Y.Lo < in.Y.Lo, a.Y.Hi > in.Y.Hi}
}

// seen is what there is to know of each setting.
type seen struct {
	impacts []api.Area
	misses  []int
	allowed []int
}

func see(x task) (s seen) {
	w := weighed(x)
	for i, set := range x.t.Settings {
		a := impactOf(set, w)
		s.impacts = append(s.impacts, a)
		s.misses = append(s.misses, slices.Max(cornersOf(x.t, a)))
		if !slices.Contains(sidesOf(x.t, a), true) {
			s.allowed = append(s.allowed, i)
		}
	}
	return s
}

// bestOf returns the best setting, or -1.
func (s seen) bestOf() int {
	best := -1
	for _, i := range slices.Backward(s.allowed) {
		if best < 0 || s.misses[i] <= s.misses[best] {
			best = i
		}
	}
	return best
}

// choiceOf returns the choice that Best has to return, without an error.
func choiceOf(x task, s seen) api.AmChoice {
	best := s.bestOf()
	c := api.AmChoice{Setting: best, Miss: s.misses[best]}
	for i, a := range s.impacts {
		r := api.AmReason{}
		switch out := slices.Index(sidesOf(x.t, a), true); {
		case i == best:
		case out >= 0:
			r = api.AmReason{Kind: api.AmOut, At: out}
		default:
			least := c.Miss
			if i < best {
				least++
			}
			r = api.AmReason{Kind: api.AmFar, At: slices.IndexFunc(cornersOf(x.t, a), func(n int) bool { return n >= least })}
		}
		c.Others = append(c.Others, r)
	}
	return c
}

// acceptOf returns what Accept has to return.
func acceptOf(x task, s seen, c api.AmChoice) (at int, e api.Errno) {
	if !slices.Contains(s.allowed, c.Setting) {
		return 0, api.AmErrSetting
	}
	if c.Miss != s.misses[c.Setting] {
		return 0, api.AmErrMiss
	}
	if len(c.Others) != len(s.impacts) {
		return 0, api.ErrArg
	}
	for i, r := range c.Others {
		ok := false
		switch {
		case i == c.Setting:
			ok = r.Kind == 0 && r.At == 0
		case r.At < 0 || r.At > 3:
		case r.Kind == 1:
			ok = sidesOf(x.t, s.impacts[i])[r.At]
		case r.Kind == 2:
			n := cornersOf(x.t, s.impacts[i])[r.At]
			ok = n > c.Miss || n == c.Miss && i >= c.Setting
		}
		if !ok {
			return i, api.AmErrReason
		}
	}
	return 0, api.OK
}

// roundsOf returns what Rounds has to return, without an error.
func roundsOf(t api.AmTask, w api.WnTask, launch int, nows []int) []api.AmRound {
	var told []api.AmRound
	setting := -1
	for _, now := range nows {
		told = append(told, api.AmRound{Now: now, Setting: setting, Miss: -1})
		l, e := wind.Bands(w, launch, now)
		if e == api.ErrDown || l[len(l)-1].To < t.Response[len(t.Response)-1].To {
			continue
		}
		s := see(task{t, l})
		if setting >= 0 && !slices.Contains(s.allowed, setting) {
			setting = -1
		}
		this := &told[len(told)-1]
		if best := s.bestOf(); best >= 0 && (setting < 0 || s.misses[best]+t.Gain <= s.misses[setting]) && now+t.Turn+t.Freeze <= launch {
			setting, this.Set = best, true
		}
		this.Setting = setting
		if setting >= 0 {
			this.Miss = s.misses[setting]
		}
	}
	return told
}

// P3.2, P3.3, P3.4
func TestAsDefined(t *testing.T) {
	r := rand.New(rand.NewSource(3234))
	down := 0
	for range 3000 {
		x := randomTask(r)
		s, w := see(x), weighed(x)
		if wx, wy, e := aim.Weigh(x.t, x.l); wx != w.X || wy != w.Y || e != api.OK {
			t.Fatalf("Weigh = %v, %v, %d, and not %v of %v", wx, wy, e, w, x)
		}
		for i := range x.t.Settings {
			if a, e := aim.Impact(x.t, x.l, i); a != s.impacts[i] || e != api.OK {
				t.Fatalf("Impact of %d = %v, %d, and not %v of %v", i, a, e, s.impacts[i], x)
			}
			if n, e := aim.Miss(x.t, x.l, i); n != s.misses[i] || e != api.OK {
				t.Fatalf("Miss of %d = %d, %d, and not %d of %v", i, n, e, s.misses[i], x)
			}
		}
		if l, e := aim.Allowed(x.t, x.l); !slices.Equal(l, s.allowed) || e != api.OK {
			t.Fatalf("Allowed = %v, %d, and not %v of %v", l, e, s.allowed, x)
		}
		c, e := aim.Best(x.t, x.l)
		if s.bestOf() < 0 {
			down++
			if e != api.ErrDown || !sameChoice(c, api.AmChoice{}) {
				t.Fatalf("Best = %v, %d of %v", c, e, x)
			}
			continue
		}
		if want := choiceOf(x, s); e != api.OK || !sameChoice(c, want) {
			t.Fatalf("Best = %v, %d, and not %v of %v", c, e, want, x)
		}
	}
	if down < 300 || down > 2700 {
		t.Errorf("%d of 3000 have no best setting", down)
	}
}

// randomChoice returns a choice that is often nearly that of Best.
func randomChoice(r *rand.Rand, x task, s seen) api.AmChoice {
	c := api.AmChoice{Setting: r.Intn(len(s.impacts))}
	if len(s.allowed) > 0 {
		c.Setting = s.allowed[r.Intn(len(s.allowed))]
		if r.Intn(2) == 0 {
			c = choiceOf(x, s)
		}
	}
	c.Miss = s.misses[c.Setting]
	if len(c.Others) == 0 {
		for i := range s.impacts {
			reason := api.AmReason{Kind: 1 + r.Intn(2), At: r.Intn(4)}
			if i == c.Setting {
				reason = api.AmReason{}
			}
			c.Others = append(c.Others, reason)
		}
	}
	for range r.Intn(4) {
		o := &c.Others[r.Intn(len(c.Others))]
		switch r.Intn(12) {
		case 0:
			c.Setting = r.Intn(len(s.impacts)+2) - 1
		case 1:
			c.Miss += r.Intn(3) - 1
		case 2:
			o.Kind = r.Intn(5) - 1
		default:
			o.At = r.Intn(6) - 1
		}
	}
	return c
}

// P3.5
func TestAcceptAsDefined(t *testing.T) {
	r := rand.New(rand.NewSource(35))
	got := map[api.Errno]int{}
	for range 3000 {
		x := randomTask(r)
		s := see(x)
		for range 10 {
			c := randomChoice(r, x, s)
			at, e := aim.Accept(x.t, x.l, c)
			if wantAt, want := acceptOf(x, s, c); at != wantAt || e != want {
				t.Fatalf("Accept = %d, %d, and not %d, %d of %v, %v", at, e, wantAt, want, x, c)
			}
			got[e]++
		}
	}
	for _, e := range []api.Errno{api.OK, api.AmErrSetting, api.AmErrMiss, api.AmErrReason} {
		if got[e] < 500 {
			t.Errorf("%d times %d", got[e], e)
		}
	}
}

// P3.6
func TestRoundsAsDefined(t *testing.T) {
	r := rand.New(rand.NewSource(36))
	set, lost, again, kept := 0, 0, 0, 0
	for range 3000 {
		x, w, launch := randomTask(r).t, randomWinds(r), r.Intn(endTick)
		nows := randomNows(r, launch)
		want := roundsOf(x, w, launch, nows)
		l, e := aim.Rounds(x, w, launch, nows)
		if !slices.Equal(l, want) || e != api.OK {
			t.Fatalf("Rounds = %v, %d, and not %v of %v, %v, %d", l, e, want, x, w, launch)
		}
		before := -1
		for _, round := range l {
			switch {
			case before < 0 && round.Set:
				set++
			case before >= 0 && round.Setting < 0:
				lost++
			case round.Set:
				again++
			case before >= 0 && round.Miss < 0:
				kept++
			}
			before = round.Setting
		}
	}
	if set < 300 || lost < 100 || again < 100 || kept < 100 {
		t.Errorf("%d set, %d lost, %d set again, %d kept without winds", set, lost, again, kept)
	}
}
