package recover_test

import (
	"math"
	"math/rand"
	"slices"
	"testing"

	"hangfire/api"
	"hangfire/recover"
	"hangfire/wind"
)

// within reports whether a span lies in another one.
func within(a, in api.Span) bool { return in.Lo <= a.Lo && a.Hi <= in.Hi }

// covers reports whether an impact has the areas and the ticks of another one.
func covers(a, b api.FlImpact) bool {
	return within(b.Area.X, a.Area.X) && within(b.Area.Y, a.Area.Y) && within(b.At, a.At)
}

// oneOf returns a number of a span, often an end.
func oneOf(r *rand.Rand, s api.Span) int {
	return pick(r, s.Lo, s.Hi, s.Lo+r.Intn(s.Hi-s.Lo+1), s.Lo+r.Intn(s.Hi-s.Lo+1))
}

// land returns where something lands, without an error.
func land(t *testing.T, x api.FlImpact, c api.RcChute, l []api.WnBand) api.FlImpact {
	t.Helper()
	y, e := recover.Land(x, c, l)
	if e != api.OK {
		t.Fatalf("Land of %v with %v by %v = %d", x, c, l, e)
	}
	return y
}

// drifts returns how far winds within a band carry something in some mm, times its speed: at its ends, or anywhere in between.
func drifts(r *rand.Rand, s api.Span, mm int) int {
	sum, always := 0, r.Intn(3)
	for range mm {
		sum += []int{s.Lo, s.Hi, oneOf(r, s)}[always]
	}
	return sum
}

// P10.8: T1
func TestLandsInside(t *testing.T) {
	r := rand.New(rand.NewSource(1008))
	atEnd := 0
	for range 20000 {
		l, x := randomBands(r), randomImpact(r)
		c := randomChute(r, heightOf(l))
		y := land(t, x, c, l)
		speed, east, north := oneOf(r, c.Fall), 0, 0
		for _, b := range l {
			mm := max(min(b.To, c.Height)-b.From, 0)
			east, north = east+drifts(r, b.X, mm), north+drifts(r, b.Y, mm)
		}
		// All of it times the speed, so that nothing is rounded.
		times := func(s api.Span) api.Span { return span(s.Lo*speed, s.Hi*speed) }
		east, north = east+speed*oneOf(r, x.Area.X), north+speed*oneOf(r, x.Area.Y)
		at := c.Height + speed*oneOf(r, x.At)
		if !within(only(east), times(y.Area.X)) || !within(only(north), times(y.Area.Y)) || !within(only(at), times(y.At)) {
			t.Fatalf("%d, %d at %d, all divided by %d, are not in %v, where %v lands with %v by %v", east, north, at, speed, y, x, c, l)
		}
		if east == speed*y.Area.X.Lo || east == speed*y.Area.X.Hi {
			atEnd++
		}
	}
	if atEnd < 100 {
		t.Errorf("%d landings at an end", atEnd)
	}
}

// heardAt returns a place of the area, often one that agrees with the first fix.
func heardAt(r *rand.Rand, x api.RcTask) api.Place {
	if len(x.Fixes) == 0 || r.Intn(4) == 0 {
		return placeIn(r, x.Area)
	}
	f, to := x.Fixes[0], placeIn(r, x.Area)
	long := math.Hypot(float64(f.DX), float64(f.DY))
	forward := math.Hypot(float64(to.X-f.X), float64(to.Y-f.Y)) / long
	aside := forward * float64(f.Tan) / 1000 * (2*r.Float64() - 1)
	if r.Intn(3) == 0 {
		aside = 0
	}
	dx, dy := float64(f.DX), float64(f.DY)
	return place(f.X+int(math.Round(dx*forward-dy*aside)), f.Y+int(math.Round(dy*forward+dx*aside)))
}

// P10.9: T10, heard
func TestHeard(t *testing.T) {
	r := rand.New(rand.NewSource(1009))
	var heard, ruledOut [2]int // by kinds of tasks
	for n := range 4000 {
		kind := n % 2
		x := []api.RcTask{small(r), great(r)}[kind]
		l := cellsOf(t, x)
		for range 50 {
			p := heardAt(r, x)
			if !isIn(x.Area, p) {
				continue
			}
			in := 0
			for _, c := range l {
				if isIn(c.Area, p) {
					in++
				}
			}
			cell, e := recover.Cell(x, p)
			if in > 1 || e == api.OK && (in == 0 || !isIn(l[cell].Area, p)) || e != api.OK && (e != api.ErrNone || in != 0) {
				t.Fatalf("%v is in %d cells, and Cell = %d, %d, in %v", p, in, cell, e, x)
			}
			if e == api.ErrNone {
				ruledOut[kind]++
			}
			if !agreesWithAll(x, p) {
				continue
			}
			heard[kind]++
			if e != api.OK {
				t.Fatalf("%v agrees, and is in no cell of %v", p, x)
			}
		}
	}
	if min(heard[0], heard[1], ruledOut[0], ruledOut[1]) < 5000 {
		t.Errorf("%d places agree, %d are ruled out", heard, ruledOut)
	}
}

// judged checks that a plan is in order, and that by it each cell, and each place that agrees, is found or has to be left.
func judged(t *testing.T, r *rand.Rand, x api.RcTask, l []api.RcCell, p api.RcPlan) (found int) {
	t.Helper()
	if at, e := recover.Judge(x, p); at != 0 || e != api.OK {
		t.Fatalf("Judge of %v in %v = %d, %d", p, x, at, e)
	}
	visited := map[int]bool{}
	last := 0
	for _, v := range p.Visits {
		visited[v.Cell], last = true, v.Until
	}
	for i, c := range l {
		middle := place(roundDown(c.Area.X.Lo+c.Area.X.Hi, 2), roundDown(c.Area.Y.Lo+c.Area.Y.Hi, 2))
		way, e := recover.Flight(x, x.Base, middle)
		if !visited[i] && c.Open != never && (x.Look+2*way <= x.Fuel || e != api.OK) {
			t.Fatalf("the cell %d is not visited by %v in %v", i, p, x)
		}
	}
	for range 5 {
		spot := heardAt(r, x)
		if !isIn(x.Area, spot) || !agreesWithAll(x, spot) {
			continue
		}
		until, e := recover.Found(x, p, spot)
		cell := slices.IndexFunc(l, func(c api.RcCell) bool { return isIn(c.Area, spot) })
		isLeft := slices.ContainsFunc(p.Left, func(l api.RcLeft) bool { return l.Cell == cell })
		switch {
		case cell < 0, isLeft == visited[cell], isLeft && e != api.ErrDown, !isLeft && (e != api.OK || until > last):
			t.Fatalf("Found of %v by %v in %v = %d, %d", spot, p, x, until, e)
		case !isLeft:
			found++
		}
	}
	return found
}

// P10.10: T10, found
func TestFoundByAnyPlan(t *testing.T) {
	r := rand.New(rand.NewSource(1010))
	found, others := 0, 0
	for range 2000 {
		x := great(r)
		found += judged(t, r, x, cellsOf(t, x), searchOf(t, x))
		x = small(r)
		l := cellsOf(t, x)
		y := newReader(x, l)
		found += judged(t, r, x, l, searchOf(t, x))
		found += judged(t, r, x, l, y.other(r))
		// Whatever else is in order, as well.
		p := spoiled(r, y.other(r), len(l))
		if _, e := recover.Judge(x, p); e == api.OK {
			found += judged(t, r, x, l, p)
			others++
		}
	}
	if found < 2000 || others < 500 {
		t.Errorf("%d places found, %d other plans", found, others)
	}
}

// P10.11
func TestSoon(t *testing.T) {
	r := rand.New(rand.NewSource(1011))
	bases, waits := 0, 0
	for n := range 4000 {
		x := small(r)
		if n%2 == 0 {
			x = great(r)
		}
		l := cellsOf(t, x)
		y := newReader(x, l)
		before, bare := visit(base, 0, x.Start), 0
		for _, v := range searchOf(t, x).Visits {
			way, e := recover.Flight(x, y.where(before.Cell), y.where(v.Cell))
			switch gap := v.From - before.Until; {
			case e != api.OK, gap < way, gap > way && (v.Cell == base || v.From != l[v.Cell].Open):
				t.Fatalf("%v comes behind %v in the search of %v, but the flight takes %d ticks", v, before, x, way)
			case gap > way:
				waits++
			}
			if v.Cell == base {
				bare++
			}
			before = v
		}
		if bare > len(l) {
			t.Fatalf("%d visits of Base, with %d cells, in the search of %v", bare, len(l), x)
		}
		bases += bare
	}
	if bases < 4000 || waits < 500 {
		t.Errorf("%d visits of Base, %d waits", bases, waits)
	}
}

// wider returns a span that has another one, and is at most as great as stated.
func wider(r *rand.Rand, s api.Span, least, most int) api.Span {
	return span(max(s.Lo-pick(r, 0, 0, 1, r.Intn(50)), least), min(s.Hi+pick(r, 0, 0, 1, r.Intn(50)), most))
}

// covering returns bands that cover other ones.
func covering(r *rand.Rand, l []api.WnBand) (wide []api.WnBand) {
	for _, b := range l {
		b.X, b.Y = wider(r, b.X, -20000, 20000), wider(r, b.Y, -20000, 20000)
		switch n := len(wide); {
		case n > 0 && r.Intn(4) == 0: // one band with the one before it
			w := &wide[n-1]
			w.To = b.To
			w.X, w.Y = span(min(w.X.Lo, b.X.Lo), max(w.X.Hi, b.X.Hi)), span(min(w.Y.Lo, b.Y.Lo), max(w.Y.Hi, b.Y.Hi))
		case b.To-b.From > 1 && r.Intn(4) == 0: // two bands, one of which is wider
			c := b
			b.To = b.From + 1 + r.Intn(b.To-b.From-1)
			c.From, c.X = b.To, wider(r, c.X, -20000, 20000)
			wide = append(wide, b, c)
		default:
			wide = append(wide, b)
		}
	}
	if r.Intn(3) == 0 {
		wide = append(wide, api.WnBand{From: heightOf(wide), To: heightOf(wide) + 1 + r.Intn(30), X: only(7), Y: only(-7)})
	}
	return wide
}

// P10.12
func TestWider(t *testing.T) {
	r := rand.New(rand.NewSource(1012))
	greater := 0
	for range 20000 {
		l, x := randomBands(r), randomImpact(r)
		c := randomChute(r, heightOf(l))
		y := land(t, x, c, l)
		wide := covering(r, l)
		if is, e := wind.Covers(wide, l); !is || e != api.OK {
			t.Fatalf("%v do not cover %v: %d", wide, l, e)
		}
		fall := c
		fall.Fall = wider(r, c.Fall, 1, api.MaxRcFall)
		big := x
		big.At = wider(r, x.At, 0, api.MaxTick)
		big.Area = api.Area{X: wider(r, x.Area.X, -1000, 1000), Y: wider(r, x.Area.Y, -1000, 1000)}
		for i, z := range []api.FlImpact{land(t, x, c, wide), land(t, x, fall, l), land(t, big, c, l), land(t, big, fall, wide)} {
			if !covers(z, y) {
				t.Fatalf("%d: %v does not have %v, where %v lands with %v by %v", i, z, y, x, c, l)
			}
			if z != y {
				greater++
			}
		}
	}
	if greater < 20000 {
		t.Errorf("%d landings are greater", greater)
	}
}

// P10.13: with a further fix.
func TestFurtherFix(t *testing.T) {
	r := rand.New(rand.NewSource(10131))
	fewer := 0
	for n := range 5000 {
		x := small(r)
		if n%2 == 0 {
			x = great(r)
		}
		if len(x.Fixes) == api.MaxRcFixes {
			continue
		}
		y := cloneTask(x)
		y.Fixes = slices.Insert(y.Fixes, r.Intn(len(x.Fixes)+1), randomFix(r, pick(r, 50, 10000, far), x.Area))
		before, after := cellsOf(t, x), cellsOf(t, y)
		for _, c := range after {
			if !slices.Contains(before, c) {
				t.Fatalf("%v is a further cell of %v", c, y)
			}
		}
		if len(after) < len(before) {
			fewer++
		}
	}
	if fewer < 1000 {
		t.Errorf("%d times there are fewer cells", fewer)
	}
}

// P10.13: with a greater Fuel.
func TestGreaterFuel(t *testing.T) {
	r := rand.New(rand.NewSource(10132))
	fewer := 0
	for n := range 5000 {
		x := small(r)
		if n%2 == 0 {
			x = great(r)
		}
		y := x
		y.Fuel = min(x.Fuel+pick(r, 1, 1, 10, 100, 10000), api.MaxRcFuel)
		before, after := searchOf(t, x).Left, searchOf(t, y).Left
		for _, l := range after {
			if !slices.Contains(before, l) {
				t.Fatalf("%v is left in %v, but not with the Fuel %d", l, y, x.Fuel)
			}
		}
		if len(after) < len(before) {
			fewer++
		}
	}
	if fewer < 300 {
		t.Errorf("%d times fewer cells are left", fewer)
	}
}

// results returns what all functions return.
func results(x api.FlImpact, c api.RcChute, l []api.WnBand, task api.RcTask, p api.RcPlan, a, b api.Place) []any {
	e0 := recover.CheckChute(c)
	landed, e1 := recover.Land(x, c, l)
	part, at2, e2 := recover.Check(task)
	cells, e3 := recover.Cells(task)
	cell, e4 := recover.Cell(task, a)
	flight, e5 := recover.Flight(task, a, b)
	search, e6 := recover.Search(task)
	at7, e7 := recover.Judge(task, p)
	found, e8 := recover.Found(task, p, a)
	return []any{cells, search, e0, landed, e1, part, at2, e2, e3, cell, e4, flight, e5, e6, at7, e7, found, e8}
}

// sameResults reports whether two of them are equal.
func sameResults(a, b []any) bool {
	return slices.Equal(a[0].([]api.RcCell), b[0].([]api.RcCell)) && samePlan(a[1].(api.RcPlan), b[1].(api.RcPlan)) && slices.Equal(a[2:], b[2:])
}

// P10.14: no argument is changed, also not behind the end of a list, and results are new memory.
func TestMemory(t *testing.T) {
	l, x, p := slices.Grow(bands(), 3), example(), first()
	x.Fixes, x.Owners = slices.Grow(x.Fixes, 3), slices.Grow(x.Owners, 3)
	p.Visits, p.Left = slices.Grow(p.Visits, 3), slices.Grow(p.Left, 3)
	m, y, q := slices.Clone(l), cloneTask(x), clonePlan(p)
	all := func() []any { return results(impact(), chute(), l, x, p, place(1200, 300), place(0, 0)) }
	one, two := all(), all()
	if !sameResults(one, two) || one[16] != 55 {
		t.Errorf("%v, and then %v", one, two)
	}
	cells, search := two[0].([]api.RcCell), two[1].(api.RcPlan)
	clear(cells[:cap(cells)])
	clear(search.Visits[:cap(search.Visits)])
	clear(search.Left[:cap(search.Left)])
	if three := all(); !sameResults(one, three) {
		t.Errorf("%v, and then %v", one, three)
	}
	if !slices.Equal(l, m) || !sameTask(x, y) || !samePlan(p, q) {
		t.Errorf("%v, %v, %v", l, x, p)
	}
	for _, v := range p.Visits[len(p.Visits):cap(p.Visits)] {
		if v != (api.RcVisit{}) {
			t.Errorf("%v is behind the visits", v)
		}
	}
	for _, v := range p.Left[len(p.Left):cap(p.Left)] {
		if v != (api.RcLeft{}) {
			t.Errorf("%v is behind what is left", v)
		}
	}
}

// P10.14: nil lists are the same as empty ones.
func TestNilLists(t *testing.T) {
	nils := row(2)
	empty := nils
	empty.Fixes, empty.Owners = []api.RcFix{}, []api.RcOwner{}
	one := results(impact(), chute(), nil, nils, api.RcPlan{}, place(0, 0), place(1, 1))
	two := results(impact(), chute(), []api.WnBand{}, empty, api.RcPlan{Visits: []api.RcVisit{}, Left: []api.RcLeft{}}, place(0, 0), place(1, 1))
	if !sameResults(one, two) {
		t.Errorf("%v, and %v", one, two)
	}
}

// oddTask returns a task with some numbers that are odd, and sometimes a name that is none.
func oddTask(r *rand.Rand) api.RcTask {
	t := small(r)
	if r.Intn(2) == 0 {
		t = great(r)
	}
	numbers := []*int{&t.Area.X.Lo, &t.Area.X.Hi, &t.Area.Y.Lo, &t.Area.Y.Hi, &t.Size, &t.Base.X, &t.Base.Y, &t.Start, &t.Speed, &t.Fuel, &t.Look, &t.Turn}
	for i := range t.Fixes {
		f := &t.Fixes[i]
		numbers = append(numbers, &f.X, &f.Y, &f.DX, &f.DY, &f.Tan)
	}
	for i := range t.Owners {
		o := &t.Owners[i]
		numbers = append(numbers, &o.Area.X.Lo, &o.Area.X.Hi, &o.Area.Y.Lo, &o.Area.Y.Hi, &o.Grant)
		if r.Intn(30) == 0 {
			o.Name = []string{"", "A", "owner-a"}[r.Intn(3)]
		}
	}
	change(r, numbers...)
	return t
}

// P10.14: no arguments make a function panic, and with an error all other results are zero.
func TestAnyArguments(t *testing.T) {
	r := rand.New(rand.NewSource(1014))
	fine := make([]int, 7)
	for range 30000 {
		x := oddTask(r)
		p, e := recover.Search(x)
		if e != api.OK && !isZero(p) {
			t.Fatalf("Search = %v, %d", p, e)
		}
		for i := range p.Visits {
			v := &p.Visits[i]
			change(r, []*int{&v.Cell, &v.From, &v.Until}[:r.Intn(3)+1]...)
			if r.Intn(3) > 0 {
				break
			}
		}
		for i := range p.Left {
			change(r, &p.Left[i].Cell, &p.Left[i].Why)
			if r.Intn(3) > 0 {
				break
			}
		}
		a, b := placeOf(r, x), placeOf(r, x)
		l, c, y := randomBands(r), api.RcChute{Height: 10, Fall: span(1, 10)}, randomImpact(r)
		change(r, &c.Height, &c.Fall.Lo, &c.Fall.Hi)
		change(r, &y.Area.X.Lo, &y.Area.X.Hi, &y.Area.Y.Lo, &y.Area.Y.Hi, &y.At.Lo, &y.At.Hi, &y.Piece)
		change(r, &l[0].From, &l[0].To, &l[0].X.Lo, &l[0].Y.Hi)
		all := results(y, c, l, x, p, a, b)
		errors := []any{all[4], all[8], all[10], all[12], all[13], all[15], all[17]}
		zero := []bool{all[3] == api.FlImpact{}, len(all[0].([]api.RcCell)) == 0, all[9] == 0, all[11] == 0, isZero(all[1].(api.RcPlan)), true, all[16] == 0}
		for i, e := range errors {
			if e != api.OK && !zero[i] {
				t.Fatalf("the function %d returns %v, %d", i, all, e)
			}
			if e == api.OK {
				fine[i]++
			}
		}
	}
	if slices.Min(fine) < 500 {
		t.Errorf("how often there is no error: %v", fine)
	}
}

// placeOf returns a place, often one of the area of a task.
func placeOf(r *rand.Rand, x api.RcTask) api.Place {
	if _, _, e := recover.Check(x); e == api.OK && r.Intn(4) > 0 {
		return placeIn(r, x.Area)
	}
	return place(odd(r), odd(r))
}
