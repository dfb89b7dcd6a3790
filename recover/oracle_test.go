package recover_test

import (
	"math/big"
	"math/rand"
	"slices"
	"testing"

	"hangfire/api"
	"hangfire/recover"
)

// This file reads the definitions a second time: mm by mm, place by place, and tick by tick.

// roundDown returns a quotient, rounded down.
func roundDown(a, b int) int {
	return int(new(big.Int).Div(big.NewInt(int64(a)), big.NewInt(int64(b))).Int64())
}

// roundUp returns a quotient, rounded up: the least number that, times b, is not below a.
func roundUp(a, b int) int {
	q := roundDown(a, b)
	if q*b < a {
		q++
	}
	return q
}

// slowDrift returns the drift by some winds, one for each mm.
func slowDrift(winds []api.Span, fall api.Span) api.Span {
	var sum api.Span
	for _, w := range winds {
		sum.Lo += w.Lo
		sum.Hi += w.Hi
	}
	lo := []int{roundDown(sum.Lo, fall.Lo), roundDown(sum.Lo, fall.Hi)}
	hi := []int{roundUp(sum.Hi, fall.Lo), roundUp(sum.Hi, fall.Hi)}
	return span(slices.Min(lo), slices.Max(hi))
}

// slowLand returns where something lands, by bands that reach up to where its parachute opens.
func slowLand(x api.FlImpact, c api.RcChute, l []api.WnBand) api.FlImpact {
	var east, north []api.Span
	for h := range c.Height {
		for _, b := range l {
			if b.From <= h && h < b.To {
				east, north = append(east, b.X), append(north, b.Y)
			}
		}
	}
	a, b := slowDrift(east, c.Fall), slowDrift(north, c.Fall)
	x.Area.X, x.Area.Y = span(x.Area.X.Lo+a.Lo, x.Area.X.Hi+a.Hi), span(x.Area.Y.Lo+b.Lo, x.Area.Y.Hi+b.Hi)
	x.At = span(x.At.Lo+roundDown(c.Height, c.Fall.Hi), x.At.Hi+roundUp(c.Height, c.Fall.Lo))
	return x
}

// meetings returns which of the conditions of a fix hold for a place.
func meetings(f api.RcFix, p api.Place) [3]bool {
	x, y := p.X-f.X, p.Y-f.Y
	forward, aside := f.DX*x+f.DY*y, f.DX*y-f.DY*x
	return [3]bool{!(forward < 0), 1000*aside-f.Tan*forward <= 0, 1000*aside+f.Tan*forward >= 0}
}

// agrees reports whether a place agrees with a fix.
func agrees(f api.RcFix, p api.Place) bool { return meetings(f, p) == [3]bool{true, true, true} }

func agreesWithAll(t api.RcTask, p api.Place) bool {
	return !slices.ContainsFunc(t.Fixes, func(f api.RcFix) bool { return !agrees(f, p) })
}

// isIn reports whether an area has a place.
func isIn(a api.Area, p api.Place) bool {
	return a.X.Lo <= p.X && p.X <= a.X.Hi && a.Y.Lo <= p.Y && p.Y <= a.Y.Hi
}

// cornersOf returns the corners of an area.
func cornersOf(a api.Area) []api.Place {
	return []api.Place{place(a.X.Lo, a.Y.Lo), place(a.X.Lo, a.Y.Hi), place(a.X.Hi, a.Y.Lo), place(a.X.Hi, a.Y.Hi)}
}

// slowRuledOut reports whether a cell is ruled out by a fix.
func slowRuledOut(f api.RcFix, a api.Area) bool {
	var met [3]bool
	for _, p := range cornersOf(a) {
		for i, so := range meetings(f, p) {
			met[i] = met[i] || so
		}
	}
	return met != [3]bool{true, true, true}
}

// slowCells returns the cells of a task whose area is small: each place is told to which cell it belongs.
func slowCells(t api.RcTask) (l []api.RcCell) {
	type key struct{ row, col int }
	var keys []key
	cells := map[key]api.RcCell{}
	for y := t.Area.Y.Lo; y <= t.Area.Y.Hi; y++ {
		for x := t.Area.X.Lo; x <= t.Area.X.Hi; x++ {
			k := key{(y - t.Area.Y.Lo) / t.Size, (x - t.Area.X.Lo) / t.Size}
			c, begun := cells[k]
			if !begun {
				keys = append(keys, k)
				c.Area.X.Lo, c.Area.Y.Lo = x, y
			}
			c.Area.X.Hi, c.Area.Y.Hi = x, y
			for _, o := range t.Owners {
				if isIn(o.Area, place(x, y)) && c.Open >= 0 && (o.Grant > c.Open || o.Grant < 0) {
					c.Open = o.Grant
				}
			}
			cells[k] = c
		}
	}
	slices.SortFunc(keys, func(a, b key) int { return 1000*(a.row-b.row) + a.col - b.col })
	for _, k := range keys {
		if !slices.ContainsFunc(t.Fixes, func(f api.RcFix) bool { return slowRuledOut(f, cells[k].Area) }) {
			l = append(l, cells[k])
		}
	}
	return l
}

// slowFlight returns how long a flight takes, counted up.
func slowFlight(a, b api.Place, speed int) (t int) {
	for t*speed*t*speed < (a.X-b.X)*(a.X-b.X)+(a.Y-b.Y)*(a.Y-b.Y) {
		t++
	}
	return t
}

// reader reads plans of a task with some cells.
type reader struct {
	api.RcTask
	cells   []api.RcCell
	flights map[[2]int]int
}

func newReader(t api.RcTask, cells []api.RcCell) reader {
	return reader{RcTask: t, cells: cells, flights: map[[2]int]int{}}
}

// where returns where a cell, or Base, is visited.
func (x reader) where(cell int) api.Place {
	if cell < 0 {
		return x.Base
	}
	a := x.cells[cell].Area
	return place(roundDown(a.X.Lo+a.X.Hi, 2), roundDown(a.Y.Lo+a.Y.Hi, 2))
}

// flight returns how long a flight takes between cells, or Base.
func (x reader) flight(a, b int) int {
	k := [2]int{min(a, b), max(a, b)}
	if _, known := x.flights[k]; !known {
		x.flights[k] = slowFlight(x.where(a), x.where(b), x.Speed)
	}
	return x.flights[k]
}

// isEarly reports whether the visit i does not meet condition 1.
func (x reader) isEarly(l []api.RcVisit, i int) bool {
	before := visit(base, 0, x.Start)
	if i > 0 {
		before = l[i-1]
	}
	if l[i].From-before.Until < x.flight(before.Cell, l[i].Cell) {
		return true
	}
	if l[i].Cell == base {
		return l[i].Until-l[i].From < x.Turn
	}
	return l[i].Until-l[i].From != x.Look
}

// needs returns how much fuel has been used when it is back from the visit i.
func (x reader) needs(l []api.RcVisit, i int) int {
	begin := i
	for begin > 0 && l[begin-1].Cell != base {
		begin--
	}
	return l[i].Until + x.flight(l[i].Cell, base) - (l[begin].From - x.flight(base, l[begin].Cell))
}

// errorOf returns the error of the visit i, if those before it have none.
func (x reader) errorOf(l []api.RcVisit, i int) api.Errno {
	v := l[i]
	isCell := v.Cell >= 0 && v.Cell < len(x.cells)
	const long = 1000000000
	switch {
	case v.Cell != base && !isCell:
		return api.ErrNone
	case isCell && slices.ContainsFunc(l[:i], func(b api.RcVisit) bool { return b.Cell == v.Cell }):
		return api.ErrTwice
	case v.From > long || v.From < -long || v.Until > long || v.Until < -long || x.isEarly(l, i):
		return api.RcErrEarly
	case isCell && (x.cells[v.Cell].Open < 0 || v.From < x.cells[v.Cell].Open):
		return api.RcErrClosed
	case isCell && x.needs(l, i) > x.Fuel:
		return api.RcErrFuel
	}
	return api.OK
}

// isTrue reports whether a reason is so.
func (x reader) isTrue(l api.RcLeft) bool {
	return l.Why == api.RcClosed && x.cells[l.Cell].Open < 0 || l.Why == api.RcFar && x.Look+x.flight(base, l.Cell)+x.flight(l.Cell, base) > x.Fuel
}

// judge returns what is wrong with a plan.
func (x reader) judge(p api.RcPlan) (at int, e api.Errno) {
	if len(p.Visits) > 200 {
		return 0, api.ErrLong
	}
	done := map[int]bool{}
	for i, v := range p.Visits {
		if e := x.errorOf(p.Visits, i); e != api.OK {
			return i, e
		}
		done[v.Cell] = true
	}
	last := -1
	for i, l := range p.Left {
		if l.Cell <= last || l.Cell >= len(x.cells) || done[l.Cell] || !x.isTrue(l) {
			return i, api.RcErrLeft
		}
		last = l.Cell
	}
	for _, l := range p.Left {
		done[l.Cell] = true
	}
	for i := range x.cells {
		if !done[i] {
			return len(p.Left), api.RcErrLeft
		}
	}
	return 0, api.OK
}

// least returns the visit of a cell with the least From that, as the next one, is in order, looked for tick by tick.
func (x reader) least(l []api.RcVisit, cell int) (v api.RcVisit, ok bool) {
	now := x.Start
	if n := len(l); n > 0 {
		now = l[n-1].Until
	}
	for from := now; from < now+400; from++ {
		v := visit(cell, from, from+x.Look)
		if cell == base {
			v.Until = from + x.Turn
		}
		if x.errorOf(append(slices.Clone(l), v), len(l)) == api.OK {
			return v, true
		}
	}
	return v, false
}

// search returns the search.
func (x reader) search() (p api.RcPlan) {
	away := false
	for {
		var best *api.RcVisit
		for i := range x.cells {
			if v, ok := x.least(p.Visits, i); ok && (best == nil || v.Until < best.Until) {
				best = &v
			}
		}
		if best == nil && !away {
			break
		}
		if best == nil {
			v, _ := x.least(p.Visits, base)
			best = &v
		}
		p.Visits = append(p.Visits, *best)
		away = best.Cell != base
	}
	for i, c := range x.cells {
		switch {
		case slices.ContainsFunc(p.Visits, func(v api.RcVisit) bool { return v.Cell == i }):
		case c.Open < 0:
			p.Left = append(p.Left, left(i, 1))
		default:
			p.Left = append(p.Left, left(i, 2))
		}
	}
	return p
}

// other returns a plan that is in order: it visits the cells that it can in any order, waits now and then, and may not go back in the end.
func (x reader) other(r *rand.Rand) (p api.RcPlan) {
	wait := func() int { return pick(r, 0, 0, 0, 0, 0, 1, r.Intn(10), r.Intn(100)) }
	add := func(v api.RcVisit) bool {
		v.From += wait()
		v.Until = v.From + x.Look
		if v.Cell == base {
			v.Until = v.From + x.Turn + wait()
		}
		l := append(slices.Clone(p.Visits), v)
		if x.errorOf(l, len(l)-1) != api.OK {
			return false
		}
		p.Visits = l
		return true
	}
	back := func() {
		n := len(p.Visits)
		if v, ok := x.least(p.Visits, base); ok && n > 0 && (p.Visits[n-1].Cell != base || r.Intn(9) == 0) {
			add(v)
		}
	}
	for _, i := range r.Perm(len(x.cells)) {
		if r.Intn(6) == 0 {
			back()
		}
		v, ok := x.least(p.Visits, i)
		for range 3 {
			ok = ok && !add(v)
		}
		if ok {
			p.Visits = append(p.Visits, v)
		}
		if !slices.ContainsFunc(p.Visits, func(v api.RcVisit) bool { return v.Cell == i }) {
			back()
			if v, ok := x.least(p.Visits, i); ok {
				p.Visits = append(p.Visits, v)
			}
		}
	}
	if r.Intn(2) == 0 {
		back()
	}
	for i := range x.cells {
		whys := []int{1, 2}
		r.Shuffle(2, func(i, j int) { whys[i], whys[j] = whys[j], whys[i] })
		for _, why := range whys {
			visited := slices.ContainsFunc(p.Visits, func(v api.RcVisit) bool { return v.Cell == i })
			if n := len(p.Left); !visited && (n == 0 || p.Left[n-1].Cell != i) && x.isTrue(left(i, why)) {
				p.Left = append(p.Left, left(i, why))
			}
		}
	}
	return p
}

// spoiled returns a plan with some changes.
func spoiled(r *rand.Rand, p api.RcPlan, cells int) api.RcPlan {
	p = clonePlan(p)
	for range r.Intn(3) {
		n, m := len(p.Visits), len(p.Left)
		switch k := r.Intn(9); {
		case k < 4 && n > 0:
			v := &p.Visits[r.Intn(n)]
			numbers := []*int{&v.Cell, &v.From, &v.From, &v.Until, &v.Until}
			*numbers[r.Intn(len(numbers))] += pick(r, -1, 1, 1, 2, -5, 30)
		case k == 4 && n > 0:
			i := r.Intn(n)
			p.Visits = slices.Delete(p.Visits, i, i+1)
		case k == 5 && n > 0:
			p.Visits = append(p.Visits, visit(r.Intn(cells+3)-2, p.Visits[n-1].Until+r.Intn(60), p.Visits[n-1].Until+r.Intn(120)))
		case k == 6 && m > 0:
			l := &p.Left[r.Intn(m)]
			*[]*int{&l.Cell, &l.Why}[r.Intn(2)] += pick(r, -1, 1)
		case k == 7 && m > 0:
			i := r.Intn(m)
			p.Left = slices.Delete(p.Left, i, i+1)
		case k == 8 && n > 0:
			later := pick(r, -20, -5, -1, 1, 10, 100)
			for i := r.Intn(n); i < n; i++ {
				p.Visits[i].From, p.Visits[i].Until = p.Visits[i].From+later, p.Visits[i].Until+later
			}
		default:
			p.Left = append(p.Left, left(r.Intn(cells+3)-1, pick(r, 1, 2)))
		}
	}
	return p
}

// P10.1: as it is read a second time.
func TestLandAgain(t *testing.T) {
	r := rand.New(rand.NewSource(1001))
	for range 20000 {
		l, x := randomBands(r), randomImpact(r)
		c := randomChute(r, heightOf(l))
		if got, e := recover.Land(x, c, l); got != slowLand(x, c, l) || e != api.OK {
			t.Fatalf("Land of %v with %v by %v = %v, %d, and not %v", x, c, l, got, e, slowLand(x, c, l))
		}
		c.Height = heightOf(l) + 1 + r.Intn(3)
		if got, e := recover.Land(x, c, l); got != (api.FlImpact{}) || e != api.ErrNone {
			t.Fatalf("Land of %v with %v by %v = %v, %d", x, c, l, got, e)
		}
	}
}

// P10.3: as it is read a second time.
func TestCellsAgain(t *testing.T) {
	r := rand.New(rand.NewSource(1003))
	out, closed := 0, 0
	for range 5000 {
		x := small(r)
		all := x
		all.Fixes = nil
		want := slowCells(x)
		if got := cellsOf(t, x); !slices.Equal(got, want) {
			t.Fatalf("Cells of %v = %v, and not %v", x, got, want)
		}
		out += len(cellsOf(t, all)) - len(want)
		for range 20 {
			p := nearPlace(r, 35)
			i := slices.IndexFunc(want, func(c api.RcCell) bool { return isIn(c.Area, p) })
			n, e := recover.Cell(x, p)
			if i < 0 && (n != 0 || e != api.ErrNone) || i >= 0 && (n != i || e != api.OK) {
				t.Fatalf("Cell of %v in %v = %d, %d, and not %d", p, x, n, e, i)
			}
		}
		for _, c := range want {
			if c.Open != 0 {
				closed++
			}
		}
	}
	if out < 5000 || closed < 5000 {
		t.Errorf("%d cells are ruled out, %d are not open at first", out, closed)
	}
}

// P10.4: as it is read a second time.
func TestFlightAgain(t *testing.T) {
	r := rand.New(rand.NewSource(1004))
	for range 20000 {
		n := pick(r, 3, 30, 1000)
		a, b, x := nearPlace(r, n), nearPlace(r, n), example()
		x.Speed = 1 + r.Intn(n)
		if got, e := recover.Flight(x, a, b); got != slowFlight(a, b, x.Speed) || e != api.OK {
			t.Fatalf("Flight of %v, %v with the speed %d = %d, %d, and not %d", a, b, x.Speed, got, e, slowFlight(a, b, x.Speed))
		}
		// Farther away, and faster: one tick less is not enough.
		a, b = nearPlace(r, far), nearPlace(r, far)
		x.Speed = 1 + r.Intn(api.MaxSpeed)
		got, e := recover.Flight(x, a, b)
		square := func(n int) int { return n * n }
		way := square(a.X-b.X) + square(a.Y-b.Y)
		if e != api.OK || square(got*x.Speed) < way || square((got-1)*x.Speed) >= way {
			t.Fatalf("Flight of %v, %v with the speed %d = %d, %d", a, b, x.Speed, got, e)
		}
	}
}

// P10.5: as it is read a second time.
func TestSearchAgain(t *testing.T) {
	r := rand.New(rand.NewSource(1005))
	visits, bases, lefts := 0, 0, 0
	for range 1500 {
		x := small(r)
		want := newReader(x, slowCells(x)).search()
		if got := searchOf(t, x); !samePlan(got, want) {
			t.Fatalf("Search of %v = %v, and not %v", x, got, want)
		}
		visits, lefts = visits+len(want.Visits), lefts+len(want.Left)
		for i, v := range want.Visits {
			if v.Cell == base && i < len(want.Visits)-1 {
				bases++
			}
		}
	}
	if visits < 3000 || bases < 500 || lefts < 2000 {
		t.Errorf("%d visits, %d of Base in between, %d cells left", visits, bases, lefts)
	}
}

// P10.6, P10.7: as they are read a second time.
func TestJudgeAgain(t *testing.T) {
	r := rand.New(rand.NewSource(1006))
	errors := map[api.Errno]int{}
	found, none, down := 0, 0, 0
	for range 6000 {
		x := small(r)
		y := newReader(x, slowCells(x))
		p := spoiled(r, y.other(r), len(y.cells))
		wantAt, want := y.judge(p)
		at, e := recover.Judge(x, p)
		if at != wantAt || e != want {
			t.Fatalf("Judge of %v in %v = %d, %d, and not %d, %d", p, x, at, e, wantAt, want)
		}
		errors[e]++
		for range 5 {
			spot := placeIn(r, x.Area)
			if r.Intn(4) == 0 {
				spot = nearPlace(r, 35)
			}
			until, e := recover.Found(x, p, spot)
			cell := slices.IndexFunc(y.cells, func(c api.RcCell) bool { return isIn(c.Area, spot) })
			i := slices.IndexFunc(p.Visits, func(v api.RcVisit) bool { return v.Cell == cell })
			switch {
			case want != api.OK:
				if until != 0 || e != want {
					t.Fatalf("Found = %d, %d, and not %d", until, e, want)
				}
			case cell < 0:
				none++
				if until != 0 || e != api.ErrNone {
					t.Fatalf("Found of %v by %v in %v = %d, %d", spot, p, x, until, e)
				}
			case i < 0:
				down++
				if until != 0 || e != api.ErrDown {
					t.Fatalf("Found of %v by %v in %v = %d, %d", spot, p, x, until, e)
				}
			default:
				found++
				if until != p.Visits[i].Until || e != api.OK {
					t.Fatalf("Found of %v by %v in %v = %d, %d", spot, p, x, until, e)
				}
			}
		}
	}
	for _, e := range []api.Errno{api.OK, api.ErrNone, api.ErrTwice, api.RcErrEarly, api.RcErrClosed, api.RcErrFuel, api.RcErrLeft} {
		if errors[e] < 10 {
			t.Errorf("the error %d comes %d times", e, errors[e])
		}
	}
	if found < 500 || none < 1000 || down < 300 {
		t.Errorf("%d places found, %d in no cell, %d not visited", found, none, down)
	}
}
