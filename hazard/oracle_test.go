package hazard_test

import (
	"math/big"
	"math/rand"
	"regexp"
	"slices"
	"strconv"
	"strings"
	"testing"

	"hangfire/api"
	"hangfire/hazard"
)

// This file reads the definitions a second time: cell by cell, place by place, and with expressions for strings.

// cellOf returns the area of a cell.
func cellOf(m api.HzMap, cell int) api.Area {
	side := 1000 * m.Size
	x, y := m.Corner.X+cell%m.Cols*side, m.Corner.Y+cell/m.Cols*side
	return area(x, x+side-1, y, y+side-1)
}

// shares reports whether a number is in both spans.
func shares(a, b api.Span) bool { return !(a.Hi < b.Lo || b.Hi < a.Lo) }

func cellsOf(m api.HzMap, a api.Area) (l []int, out bool) {
	for i := range m.People {
		if c := cellOf(m, i); shares(c.X, a.X) && shares(c.Y, a.Y) {
			l = append(l, i)
		}
	}
	// The map is itself an area, from the first cell to the last one.
	first, last := cellOf(m, 0), cellOf(m, len(m.People)-1)
	return l, !lies(a.X, span(first.X.Lo, last.X.Hi)) || !lies(a.Y, span(first.Y.Lo, last.Y.Hi))
}

// P4.1
func TestCellsAsDefined(t *testing.T) {
	r := rand.New(rand.NewSource(41))
	outs, none := 0, 0
	for range 5000 {
		m := randomMap(r)
		a := randomArea(r, m)
		want, wantOut := cellsOf(m, a)
		l, out, e := hazard.Cells(m, a)
		if !slices.Equal(l, want) || out != wantOut || e != api.OK {
			t.Fatalf("Cells = %v, %t, %d, and not %v, %t of %v, %v", l, out, e, want, wantOut, m, a)
		}
		p := api.Place{X: pick(r, a.X), Y: pick(r, a.Y)}
		cell := -1
		for i := range m.People {
			if c := cellOf(m, i); has(c.X, p.X) && has(c.Y, p.Y) {
				cell = i
			}
		}
		if n, e := hazard.Cell(m, p); n != cell || e != api.OK {
			t.Fatalf("Cell = %d, %d, and not %d of %v, %v", n, e, cell, m, p)
		}
		if out {
			outs++
		}
		if len(l) == 0 {
			none++
		}
	}
	if outs < 500 || outs > 4500 || none < 100 {
		t.Errorf("%d are also outside, %d meet no cell", outs, none)
	}
}

// greatestOf returns the greatest spread, its people, and whether there is one.
func greatestOf(m api.HzMap, a api.Area, l api.HzLaw) (s api.HzSpread, people int, ok bool) {
	cells, out := cellsOf(m, a)
	parts := map[int]int{}
	left := 1000000
	for len(cells) > 0 && left > 0 {
		at := 0
		for i, cell := range cells {
			if m.People[cell] > m.People[cells[at]] {
				at = i
			}
		}
		cell := cells[at]
		parts[cell] = min(l.Cap, left)
		left -= parts[cell]
		people += parts[cell] * m.People[cell]
		s.Price = m.People[cell]
		cells = slices.Delete(cells, at, at+1)
	}
	if left > 0 {
		s.Out, s.Price = left, 0
	}
	for i := range m.People {
		if parts[i] > 0 {
			s.Parts = append(s.Parts, part(i, parts[i]))
		}
	}
	return s, people, left == 0 || out
}

// P4.2
func TestMostAsDefined(t *testing.T) {
	r := rand.New(rand.NewSource(42))
	down, outs := 0, 0
	for range 5000 {
		m, l := randomMap(r), randomLaw(r)
		a := randomArea(r, m)
		want, wantPeople, ok := greatestOf(m, a, l)
		s, n, e := hazard.Most(m, a, l)
		if !ok {
			down++
			if !sameSpread(s, api.HzSpread{}) || n != 0 || e != api.ErrDown {
				t.Fatalf("Most = %v, %d, %d of %v, %v, %v", s, n, e, m, a, l)
			}
			continue
		}
		if !sameSpread(s, want) || n != wantPeople || e != api.OK {
			t.Fatalf("Most = %v, %d, %d, and not %v, %d of %v, %v, %v", s, n, e, want, wantPeople, m, a, l)
		}
		if s.Out > 0 {
			outs++
		}
	}
	if down < 500 || outs < 500 || down+outs > 4500 {
		t.Errorf("%d have no spread, %d have a part outside", down, outs)
	}
}

// peopleOf returns the people of a spread.
func peopleOf(m api.HzMap, s api.HzSpread) int {
	n := 0
	for _, p := range s.Parts {
		n += p.Parts * m.People[p.Cell]
	}
	return n
}

// boundOf returns the bound of a price.
func boundOf(m api.HzMap, a api.Area, l api.HzLaw, price int) int {
	n := 1000000 * price
	cells, _ := cellsOf(m, a)
	for _, cell := range cells {
		if m.People[cell] > price {
			n += l.Cap * (m.People[cell] - price)
		}
	}
	return n
}

// proveOf returns what Prove has to return, for an area and a law without errors.
func proveOf(m api.HzMap, a api.Area, l api.HzLaw, s api.HzSpread) (int, api.Errno) {
	cells, out := cellsOf(m, a)
	all, e := s.Out, api.OK
	for i, p := range s.Parts {
		if !slices.Contains(cells, p.Cell) || i > 0 && p.Cell <= s.Parts[i-1].Cell {
			return 0, api.ErrArg
		}
		if p.Parts < 1 || p.Parts > l.Cap {
			e = api.HzErrCap
		}
		all += p.Parts
	}
	switch {
	case s.Out < 0, s.Out > 1000000, s.Out > 0 && !out, s.Price < 0, s.Price > 1000000:
		return 0, api.ErrArg
	case e != api.OK:
		return 0, e
	case all != 1000000:
		return 0, api.HzErrSum
	case peopleOf(m, s) != boundOf(m, a, l, s.Price):
		return 0, api.HzErrPrice
	}
	return peopleOf(m, s), api.OK
}

// randomSpread returns a spread, if there is one: parts are given to cells in any order, and often to the outside before.
func randomSpread(r *rand.Rand, m api.HzMap, a api.Area, l api.HzLaw) (s api.HzSpread, ok bool) {
	cells, out := cellsOf(m, a)
	left := 1000000
	if out && r.Intn(2) == 0 {
		s.Out = r.Intn(left + 1)
		left -= s.Out
	}
	r.Shuffle(len(cells), func(i, j int) { cells[i], cells[j] = cells[j], cells[i] })
	if r.Intn(2) == 0 { // nearly the greatest one
		slices.SortStableFunc(cells, func(i, j int) int { return m.People[j] - m.People[i] })
	}
	parts := map[int]int{}
	for _, full := range []bool{r.Intn(3) == 0, true} {
		for _, cell := range cells {
			n := min(l.Cap-parts[cell], left)
			if !full {
				n = r.Intn(n + 1)
			}
			parts[cell] += n
			left -= n
		}
	}
	if left > 0 && out {
		s.Out, left = s.Out+left, 0
	}
	for i := range m.People {
		if parts[i] > 0 {
			s.Parts = append(s.Parts, part(i, parts[i]))
		}
	}
	s.Price = r.Intn(20)
	if len(s.Parts) > 0 && r.Intn(2) == 0 {
		s.Price = m.People[s.Parts[r.Intn(len(s.Parts))].Cell]
	}
	if s.Out > 0 && r.Intn(2) == 0 {
		s.Price = 0
	}
	return s, left == 0
}

// spoilt returns a spread with some other numbers.
func spoilt(r *rand.Rand, s api.HzSpread) api.HzSpread {
	s = cloneSpread(s)
	for range r.Intn(3) {
		numbers := []*int{&s.Out, &s.Price}
		if len(s.Parts) > 0 {
			p := &s.Parts[r.Intn(len(s.Parts))]
			numbers = append(numbers, &p.Cell, &p.Parts, &p.Parts)
		}
		*numbers[r.Intn(len(numbers))] += []int{-1, 1, 1000000, -1000000}[r.Intn(4)]
	}
	return s
}

// P4.3
func TestProveAsDefined(t *testing.T) {
	r := rand.New(rand.NewSource(43))
	got := map[api.Errno]int{}
	for range 20000 {
		m, l := randomMap(r), randomLaw(r)
		a := randomArea(r, m)
		s, _, e := hazard.Most(m, a, l)
		if other, ok := randomSpread(r, m, a, l); ok && (r.Intn(2) == 0 || e != api.OK) {
			s = other
		}
		s = spoilt(r, s)
		want, wantErr := proveOf(m, a, l, s)
		n, e := hazard.Prove(m, a, l, s)
		if n != want || e != wantErr {
			t.Fatalf("Prove = %d, %d, and not %d, %d of %v, %v, %v, %v", n, e, want, wantErr, m, a, l, s)
		}
		got[e]++
	}
	for _, e := range []api.Errno{api.OK, api.ErrArg, api.HzErrCap, api.HzErrSum, api.HzErrPrice} {
		if got[e] < 500 {
			t.Errorf("%d times %d", got[e], e)
		}
	}
}

// P4.4
func TestRiskAsDefined(t *testing.T) {
	r := rand.New(rand.NewSource(44))
	got := map[api.Errno]int{}
	for range 5000 {
		m := randomMap(r)
		var l []api.FlImpact
		var laws []api.HzLaw
		want, wantErr := api.HzRisk{Den: 1000000 * m.Size * m.Size}, api.OK
		for range r.Intn(4) {
			x, law := over(randomArea(r, m)), randomLaw(r)
			if r.Intn(10) == 0 {
				x.Piece = -1
			}
			if r.Intn(10) == 0 {
				law.Cap = 0
			}
			l, laws = append(l, x), append(laws, law)
			_, n, ok := greatestOf(m, x.Area, law)
			switch {
			case wantErr != api.OK:
			case x.Piece < 0:
				wantErr = api.ErrRange
			case law.Cap == 0:
				wantErr = api.ErrArg
			case !ok:
				wantErr = api.ErrDown
			}
			want.Num += n * law.Lethal
		}
		if wantErr != api.OK {
			want = api.HzRisk{}
		}
		if risk, e := hazard.Risk(m, l, laws); risk != want || e != wantErr {
			t.Fatalf("Risk = %v, %d, and not %v, %d of %v, %v, %v", risk, e, want, wantErr, m, l, laws)
		}
		got[wantErr]++
	}
	for _, e := range []api.Errno{api.OK, api.ErrRange, api.ErrArg, api.ErrDown} {
		if got[e] < 100 {
			t.Errorf("%d times %d", got[e], e)
		}
	}
}

// P4.4
func TestWithinAsDefined(t *testing.T) {
	r := rand.New(rand.NewSource(441))
	number := func() int {
		return []int{1 + r.Intn(10), 1 + r.Intn(1000000000000000000), 1000000000000000000 - r.Intn(3)}[r.Intn(3)]
	}
	within := 0
	for range 20000 {
		a, b := api.HzRisk{Num: number(), Den: number()}, api.HzRisk{Num: number(), Den: number()}
		if r.Intn(4) == 0 {
			b = a
			b.Num = max(b.Num-1, 0)
		}
		want := big.NewRat(int64(a.Num), int64(a.Den)).Cmp(big.NewRat(int64(b.Num), int64(b.Den))) <= 0
		if is, e := hazard.Within(a, b); is != want || e != api.OK {
			t.Fatalf("Within = %t, %d, and not %t of %v, %v", is, e, want, a, b)
		}
		if want {
			within++
		}
	}
	if within < 5000 || within > 15000 {
		t.Errorf("%d of 20000 are within", within)
	}
}

// canBe reports for a single axis whether a craft can be at a number at a tick.
func canBe(c api.HzCraft, tick, n, speed int, of func(s api.HzSight) int) bool {
	for _, s := range c.Sights {
		differ := n - of(s)
		if differ < 0 {
			differ = -differ
		}
		ticks := tick - s.Tick
		if ticks < 0 {
			ticks = -ticks
		}
		if differ > s.Error+speed*ticks {
			return false
		}
	}
	return true
}

// whereOf returns where a craft can be at a tick, number by number. No random craft is farther away than 1000.
func whereOf(c api.HzCraft, tick int) (a api.Area, height api.Span, ok bool) {
	search := func(lo, hi, speed int, of func(s api.HzSight) int) (s api.Span, ok bool) {
		for n := lo; n <= hi; n++ {
			if !canBe(c, tick, n, speed, of) {
				continue
			}
			if !ok {
				s.Lo, ok = n, true
			}
			s.Hi = n
		}
		return s, ok
	}
	var okX, okY, okZ bool
	a.X, okX = search(-1000, 1000, c.Speed, func(s api.HzSight) int { return s.Place.X })
	a.Y, okY = search(-1000, 1000, c.Speed, func(s api.HzSight) int { return s.Place.Y })
	height, okZ = search(c.Low, c.High, c.Climb, func(s api.HzSight) int { return s.Height })
	return a, height, okX && okY && okZ
}

// P4.5
func TestWhereAsDefined(t *testing.T) {
	r := rand.New(rand.NewSource(45))
	down := 0
	for range 2000 {
		c, _ := randomCraft(r, "a", r.Intn(2) == 0)
		tick := r.Intn(80)
		want, wantHeight, ok := whereOf(c, tick)
		a, height, e := hazard.Where(c, tick)
		if !ok {
			down++
			if a != (api.Area{}) || height != (api.Span{}) || e != api.ErrDown {
				t.Fatalf("Where = %v, %v, %d of %v at %d", a, height, e, c, tick)
			}
			continue
		}
		if a != want || height != wantHeight || e != api.OK {
			t.Fatalf("Where = %v, %v, %d, and not %v, %v of %v at %d", a, height, e, want, wantHeight, c, tick)
		}
	}
	if down < 100 || down > 1000 {
		t.Errorf("%d of 2000 contradict themselves", down)
	}
}

// meetsOf returns which crafts can be at some ticks where there says.
func meetsOf(crafts []api.HzCraft, n int, ticks func(i int) api.Span, there func(i, tick int, a api.Area, height api.Span) bool) ([]api.HzMeet, api.Errno) {
	var l []api.HzMeet
	for i, c := range crafts {
		for j := range n {
			for tick := ticks(j).Lo; tick <= ticks(j).Hi; tick++ {
				a, height, e := hazard.Where(c, tick)
				if e != api.OK {
					return nil, e
				}
				if there(j, tick, a, height) {
					l = append(l, api.HzMeet{Craft: i, Impact: j, Tick: tick})
					break
				}
			}
		}
	}
	return l, api.OK
}

// randomCrafts returns some crafts, some of which lie.
func randomCrafts(r *rand.Rand) []api.HzCraft {
	var l []api.HzCraft
	for i := range r.Intn(4) {
		c, _ := randomCraft(r, "a"+strconv.Itoa(i), r.Intn(6) == 0)
		l = append(l, c)
	}
	return l
}

// P4.6
func TestMeetsAsDefined(t *testing.T) {
	r := rand.New(rand.NewSource(46))
	down, met, later := 0, 0, 0
	count := func(l []api.HzMeet, e api.Errno, begin func(i int) int) {
		if e != api.OK {
			down++
		}
		met += len(l)
		for _, m := range l {
			if m.Tick > begin(m.Impact) {
				later++
			}
		}
	}
	for range 3000 {
		crafts := randomCrafts(r)
		var l []api.FlImpact
		for range r.Intn(4) {
			l = append(l, randomImpact(r))
		}
		want, wantErr := meetsOf(crafts, len(l), func(i int) api.Span { return l[i].At }, func(i, _ int, a api.Area, _ api.Span) bool {
			return shares(a.X, l[i].Area.X) && shares(a.Y, l[i].Area.Y)
		})
		if ships, e := hazard.Ships(l, crafts); !slices.Equal(ships, want) || e != wantErr {
			t.Fatalf("Ships = %v, %d, and not %v, %d of %v, %v", ships, e, want, wantErr, l, crafts)
		}
		count(want, wantErr, func(i int) int { return l[i].At.Lo })
		var states []api.FlState
		x, from := randomImpact(r), r.Intn(40)
		z := r.Intn(30)
		for range r.Intn(20) {
			x.Area.X = span(x.Area.X.Lo+r.Intn(9)-4, x.Area.X.Hi+5)
			z += r.Intn(7) - 3
			states = append(states, api.FlState{X: x.Area.X, Y: x.Area.Y, Z: span(z, z+r.Intn(4))})
		}
		want, wantErr = meetsOf(crafts, 1, func(int) api.Span { return span(from, from+len(states)-1) }, func(_, tick int, a api.Area, height api.Span) bool {
			s := states[tick-from]
			return shares(a.X, s.X) && shares(a.Y, s.Y) && shares(height, s.Z)
		})
		if l, e := hazard.Meets(states, from, crafts); !slices.Equal(l, want) || e != wantErr {
			t.Fatalf("Meets = %v, %d, and not %v, %d of %v, %d, %v", l, e, want, wantErr, states, from, crafts)
		}
		count(want, wantErr, func(int) int { return from })
	}
	if down < 200 || met < 500 || later < 100 {
		t.Errorf("%d contradict themselves, %d meet, %d of them later", down, met, later)
	}
}

// km rounds mm to km, down or up.
func km(n int, up bool) int {
	q, m := new(big.Int).DivMod(big.NewInt(int64(n)), big.NewInt(1000000), new(big.Int))
	if up && m.Sign() > 0 {
		q.Add(q, big.NewInt(1))
	}
	return int(q.Int64())
}

// noticeString returns the string of a notice.
func noticeString(n api.HzNotice) string {
	if n.Cancel {
		return "CANCEL " + strconv.Itoa(n.Number)
	}
	s := "NOTICE #0 FROM #1 UNTIL #2 X #3 #4 Y #5 #6"
	for i, n := range []int{n.Number, n.From, n.Until, n.X.Lo, n.X.Hi, n.Y.Lo, n.Y.Hi} {
		s = strings.Replace(s, "#"+strconv.Itoa(i), strconv.Itoa(n), 1)
	}
	return s
}

// P4.7
func TestNoticeAsDefined(t *testing.T) {
	r := rand.New(rand.NewSource(47))
	long := 0
	for range 5000 {
		end := func() int { return []int{1000000 * beside(r, 2000), beside(r, 2000000000)}[r.Intn(2)] }
		a, b, c, d := end(), end(), end(), end()
		from := r.Intn(97000)
		x := impact(area(min(a, b), max(a, b), min(c, d), max(c, d)), from, from+r.Intn(3001))
		number, margin, slack := 1+r.Intn(9999), []int{r.Intn(2000000000), 1000000 * r.Intn(2000), r.Intn(3)}[r.Intn(3)], r.Intn(100001)
		n := api.HzNotice{Number: number, From: x.At.Lo - slack, Until: x.At.Hi + slack}
		if n.From < 0 {
			n.From = 0
		}
		if n.Until > 100000 {
			n.Until = 100000
		}
		n.X = span(km(x.Area.X.Lo-margin, false), km(x.Area.X.Hi+margin, true))
		n.Y = span(km(x.Area.Y.Lo-margin, false), km(x.Area.Y.Hi+margin, true))
		want, wantErr := noticeString(n), api.OK
		if min(n.X.Lo, n.Y.Lo) < -3000 || max(n.X.Hi, n.Y.Hi) > 3000 {
			want, wantErr = "", api.ErrLong
			long++
		}
		if s, e := hazard.Notice(x, number, margin, slack); s != want || e != wantErr {
			t.Fatalf("Notice = %q, %d, and not %q, %d of %v, %d, %d, %d", s, e, want, wantErr, x, number, margin, slack)
		}
	}
	if long < 500 || long > 4500 {
		t.Errorf("%d of 5000 are too long", long)
	}
}

const (
	natural = "(0|[1-9][0-9]*)"
	whole   = "(0|-?[1-9][0-9]*)"
)

var (
	notice = regexp.MustCompile("^NOTICE " + natural + " FROM " + natural + " UNTIL " + natural + " X " + whole + " " + whole + " Y " + whole + " " + whole + "$")
	cancel = regexp.MustCompile("^CANCEL " + natural + "$")
)

// parseOf returns what Parse has to return.
func parseOf(s string) (n api.HzNotice, e api.Errno) {
	found := notice.FindStringSubmatch(s)
	if c := cancel.FindStringSubmatch(s); c != nil {
		found, n.Cancel = c, true
	}
	if found == nil {
		return api.HzNotice{}, api.ErrForm
	}
	slots := []*int{&n.Number, &n.From, &n.Until, &n.X.Lo, &n.X.Hi, &n.Y.Lo, &n.Y.Hi}
	for i, word := range found[1:] {
		v, _ := new(big.Int).SetString(word, 10)
		if !v.IsInt64() || v.Int64() > 100000 || v.Int64() < -3000 {
			return api.HzNotice{}, api.ErrRange
		}
		*slots[i] = int(v.Int64())
	}
	if n.Number < 1 || n.Number > 9999 || n.From > n.Until || n.X.Lo > n.X.Hi || n.Y.Lo > n.Y.Hi || n.X.Hi > 3000 || n.Y.Hi > 3000 {
		return api.HzNotice{}, api.ErrRange
	}
	return n, api.OK
}

// randomNotice returns one, or that one is cancelled, some of whose numbers are often not as stated.
func randomNotice(r *rand.Rand) api.HzNotice {
	n := api.HzNotice{Number: 1 + r.Intn(5), Cancel: r.Intn(4) == 0}
	if n.Cancel {
		return n
	}
	n.From = r.Intn(200)
	n.Until = n.From + r.Intn(200)
	n.X = span(beside(r, 5), 5+beside(r, 5))
	n.Y = span(beside(r, 3000), 3000-r.Intn(2))
	return n
}

// mangled returns a string with some other bytes, often of numbers.
func mangled(r *rand.Rand, s string) string {
	const bytes = "0123456789--- XNF\x00\xff"
	b := []byte(s)
	for range 1 + r.Intn(2) {
		at := r.Intn(len(b) + 1)
		c := bytes[r.Intn(len(bytes))]
		switch r.Intn(3) {
		case 0:
			b = slices.Insert(b, at, c)
		case 1:
			if at < len(b) {
				b = slices.Delete(b, at, at+1)
			}
		default:
			if at < len(b) {
				b[at] = c
			}
		}
	}
	return string(b)
}

// P4.7
func TestParseAsDefined(t *testing.T) {
	r := rand.New(rand.NewSource(471))
	got := map[api.Errno]int{}
	for range 20000 {
		s := noticeString(randomNotice(r))
		if r.Intn(4) > 0 {
			s = mangled(r, s)
		}
		want, wantErr := parseOf(s)
		if n, e := hazard.Parse(s); n != want || e != wantErr {
			t.Fatalf("Parse = %v, %d, and not %v, %d of %q", n, e, want, wantErr, s)
		}
		got[wantErr]++
	}
	for _, e := range []api.Errno{api.OK, api.ErrForm, api.ErrRange} {
		if got[e] < 1000 {
			t.Errorf("%d times %d", got[e], e)
		}
	}
}

// randomStrings returns notices, and cancellations of them, few of which are not there.
func randomStrings(r *rand.Rand) []string {
	var l []string
	for range r.Intn(12) {
		n := randomNotice(r)
		if n.Cancel && r.Intn(3) == 0 && len(l) > 0 {
			n, _ = hazard.Parse(l[r.Intn(len(l))])
			n = api.HzNotice{Number: n.Number, Cancel: true}
		} else if n.Cancel {
			n = api.HzNotice{Number: n.Number, From: 50, Until: 300, X: span(-5, 5), Y: span(-5, 5)}
		}
		l = append(l, noticeString(n))
	}
	return l
}

// forceOf returns the notices that are in force after a list of strings: the last one of each number, unless it is cancelled.
func forceOf(l []string) (all []api.HzNotice, e api.Errno) {
	for i, s := range l {
		n, e := parseOf(s)
		if e != api.OK {
			return nil, e
		}
		last := -1
		for j, before := range l[:i] {
			if b, _ := parseOf(before); b.Number == n.Number {
				last = j
			}
		}
		if n.Cancel && (last < 0 || strings.HasPrefix(l[last], "C")) {
			return nil, api.ErrNone
		}
	}
	for number := range 10 { // those of random notices are below it
		var last api.HzNotice
		for _, s := range l {
			if n, _ := parseOf(s); n.Number == number {
				last = n
			}
		}
		if last.Number > 0 && !last.Cancel {
			all = append(all, last)
		}
	}
	return all, api.OK
}

// P4.8
func TestForceAsDefined(t *testing.T) {
	r := rand.New(rand.NewSource(48))
	errors, found, covered := 0, 0, 0
	for range 2000 {
		l := randomStrings(r)
		all, e := forceOf(l)
		tick, x := r.Intn(400), randomImpact(r)
		x.At = span(x.At.Lo+100, x.At.Hi+110)
		least := 0
		var want []api.HzNotice
		for _, n := range all {
			if n.From <= tick && tick <= n.Until {
				want = append(want, n)
			}
			in := span(1000000*n.X.Lo, 1000000*n.X.Hi)
			if least == 0 && lies(x.At, span(n.From, n.Until)) && lies(x.Area.X, in) && lies(x.Area.Y, span(1000000*n.Y.Lo, 1000000*n.Y.Hi)) {
				least = n.Number
			}
		}
		if e != api.OK {
			errors++
		}
		if force, f := hazard.Force(l, tick); !slices.Equal(force, want) || f != e {
			t.Fatalf("Force = %v, %d, and not %v, %d of %q at %d", force, f, want, e, l, tick)
		}
		if n, f := hazard.Covers(l, x); n != least || f != e {
			t.Fatalf("Covers = %d, %d, and not %d, %d of %q, %v", n, f, least, e, l, x)
		}
		found += len(want)
		if least > 0 {
			covered++
		}
	}
	if errors < 200 || errors > 1500 || found < 500 || covered < 200 {
		t.Errorf("%d errors, %d in force, %d covered", errors, found, covered)
	}
}
