package hazard_test

import (
	"math"
	"math/rand"
	"slices"
	"strconv"
	"strings"
	"testing"

	"hangfire/api"
	"hangfire/flight"
	"hangfire/hazard"
)

// P4.9, P4.10
func TestNoSpreadHasMore(t *testing.T) {
	r := rand.New(rand.NewSource(49))
	spreads, same, proved := 0, 0, 0
	for range 3000 {
		m, l := randomMap(r), randomLaw(r)
		a := randomArea(r, m)
		best, most, e := hazard.Most(m, a, l)
		if e == api.OK {
			if n, e := hazard.Prove(m, a, l, best); n != most || e != api.OK {
				t.Fatalf("Prove = %d, %d of %v, %v, %v, %v", n, e, m, a, l, best)
			}
		}
		for range 10 {
			s, ok := randomSpread(r, m, a, l)
			if !ok {
				if e != api.ErrDown {
					t.Fatalf("Most: %d, and there is no %v of %v, %v, %v", e, s, m, a, l)
				}
				continue
			}
			spreads++
			people := peopleOf(m, s)
			if e != api.OK || people > most {
				t.Fatalf("Most = %d, %d, and %v has %d of %v, %v, %v", most, e, s, people, m, a, l)
			}
			if people == most && !slices.Equal(s.Parts, best.Parts) {
				same++
			}
			if bound := boundOf(m, a, l, s.Price); people > bound || most > bound {
				t.Fatalf("the bound of %d is %d, and not at least %d, %d of %v, %v, %v", s.Price, bound, people, most, m, a, l)
			}
			if n, e := hazard.Prove(m, a, l, s); e == api.OK {
				proved++
				if n != most {
					t.Fatalf("Prove = %d, and Most = %d of %v, %v, %v, %v", n, most, m, a, l, s)
				}
			}
		}
	}
	if spreads < 10000 || same < 500 || proved < 2000 {
		t.Errorf("%d spreads, %d others with the same people, %d are proved", spreads, same, proved)
	}
}

// P4.9: whatever is proved, for any spread at all, has the people of Most.
func TestProvedIsMost(t *testing.T) {
	r := rand.New(rand.NewSource(491))
	proved, others := 0, 0
	for range 20000 {
		m, l := randomMap(r), randomLaw(r)
		a := randomArea(r, m)
		best, most, e := hazard.Most(m, a, l)
		s := cloneSpread(best)
		s.Price += r.Intn(5) - 2
		if len(s.Parts) > 0 && r.Intn(2) == 0 { // a cell with as many people instead
			p := &s.Parts[r.Intn(len(s.Parts))]
			p.Cell = r.Intn(len(m.People))
		}
		n, f := hazard.Prove(m, a, l, s)
		if f != api.OK {
			continue
		}
		proved++
		if e != api.OK || n != most {
			t.Fatalf("Prove = %d, and Most = %d, %d of %v, %v, %v, %v", n, most, e, m, a, l, s)
		}
		if !sameSpread(s, best) {
			others++
		}
	}
	if proved < 2000 || others < 300 {
		t.Errorf("%d are proved, %d of them not those of Most", proved, others)
	}
}

// P4.11
func TestMore(t *testing.T) {
	r := rand.New(rand.NewSource(411))
	more, new := 0, 0
	for range 5000 {
		m, l := randomMap(r), randomLaw(r)
		a := randomArea(r, m)
		_, few, e := hazard.Most(m, a, l)
		switch r.Intn(3) {
		case 0:
			m.People[r.Intn(len(m.People))] += r.Intn(30)
		case 1:
			l.Cap += r.Intn(api.Million - l.Cap + 1)
		default:
			a = area(a.X.Lo-r.Intn(3000), a.X.Hi+r.Intn(3000), a.Y.Lo-r.Intn(3000), a.Y.Hi+r.Intn(3000))
		}
		_, many, f := hazard.Most(m, a, l)
		if e == api.OK && f != api.OK || many < few {
			t.Fatalf("Most = %d, %d, and %d, %d of %v, %v, %v", few, e, many, f, m, a, l)
		}
		if e == api.OK && many > few {
			more++
		}
		if e != api.OK && f == api.OK {
			new++
		}
	}
	if more < 500 || new < 50 {
		t.Errorf("%d have more people, %d have a spread now", more, new)
	}
}

// randomFlight returns a vehicle that flies some metres, with some tilt.
func randomFlight(r *rand.Rand) (api.FlVehicle, api.FlDir, []api.WnBand) {
	wide := func(n, by int) api.Span { return span(n-r.Intn(by+1), n+r.Intn(by+1)) }
	v := api.FlVehicle{Name: "dart", Gravity: only(98), Air: []api.FlAir{{Dens: r.Intn(1001)}}, Phases: []api.FlPhase{{
		Ticks: 1 + r.Intn(3), Thrust: wide(1000+r.Intn(1000), 9), Mass: wide(10, 1), Drag: span(1, 1+r.Intn(5)),
		Tilt: api.FlTilt{X: wide(beside(r, 500), 20), Y: wide(beside(r, 500), 20)},
	}}}
	return v, api.FlDir{Z: api.Unit}, []api.WnBand{{To: 10000, X: wide(beside(r, 200), 9), Y: wide(beside(r, 200), 9)}}
}

// fly returns a path that a vehicle can fly until it is down.
func fly(t *testing.T, r *rand.Rand, v api.FlVehicle, d api.FlDir, l []api.WnBand) []api.FlPoint {
	path := []api.FlPoint{{}}
	for tick := 0; tick < 1000 && (tick < 2 || path[tick].Z > 0); tick++ {
		p := path[tick]
		f, e := flight.Force(v, d, l, tick, api.FlState{X: only(p.X), Y: only(p.Y), Z: only(p.Z), VX: only(p.VX), VY: only(p.VY), VZ: only(p.VZ)})
		if e != api.OK {
			t.Fatalf("Force: %d", e)
		}
		p.VX, p.VY, p.VZ = p.VX+pick(r, f.X), p.VY+pick(r, f.Y), p.VZ+pick(r, f.Z)
		p.X, p.Y, p.Z = p.X+p.VX, p.Y+p.VY, p.Z+p.VZ
		path = append(path, p)
	}
	return path
}

// P4.12
func TestComesDownInCells(t *testing.T) {
	r := rand.New(rand.NewSource(412))
	in, out := 0, 0
	for range 500 {
		v, d, bands := randomFlight(r)
		impacts, e := flight.Impacts(v, d, bands)
		if e != api.OK {
			continue
		}
		x := impacts[0]
		m := randomMap(r)
		// A corner of the map is near the place.
		m.Corner = api.Place{X: pick(r, x.Area.X) - r.Intn(1000*m.Size*m.Cols), Y: pick(r, x.Area.Y) - r.Intn(1000*m.Size*m.Rows)}
		cells, outside, e := hazard.Cells(m, x.Area)
		if e != api.OK {
			t.Fatalf("Cells: %d of %v, %v", e, m, x)
		}
		for range 5 {
			path := fly(t, r, v, d, bands)
			if at, e := flight.Own(v, d, bands, path); at != -1 || e != api.OK {
				t.Fatalf("Own = %d, %d of %v", at, e, path)
			}
			p, tick, e := flight.Down(path, 0)
			if e != api.OK || !has(x.At, tick) {
				t.Fatalf("Down = %v, %d, %d, and %v", p, tick, e, x)
			}
			cell, e := hazard.Cell(m, p)
			if e != api.OK || cell == -1 && !outside || cell != -1 && !slices.Contains(cells, cell) {
				t.Fatalf("Cell = %d, %d, and Cells = %v, %t of %v, %v, %v", cell, e, cells, outside, m, p, x)
			}
			if cell == -1 {
				out++
			} else {
				in++
			}
		}
	}
	if in < 500 || out < 100 {
		t.Errorf("%d come down on the map, %d outside", in, out)
	}
}

// P4.13
func TestCourseIsSeen(t *testing.T) {
	r := rand.New(rand.NewSource(413))
	named, earlier := 0, 0
	for range 3000 {
		c, course := randomCraft(r, "a", false)
		for tick, at := range course {
			a, height, e := hazard.Where(c, tick)
			if e != api.OK || !has(a.X, at.x) || !has(a.Y, at.y) || !has(height, at.z) {
				t.Fatalf("Where = %v, %v, %d, and it is at %v at %d of %v", a, height, e, at, tick, c)
			}
		}
		x := randomImpact(r)
		near := course[x.At.Lo+r.Intn(10)]
		x.Area = area(near.x+beside(r, 5), near.x+10, near.y+beside(r, 5), near.y+10)
		at := slices.IndexFunc(course[x.At.Lo:min(x.At.Hi+1, len(course))], func(p room) bool { return has(x.Area.X, p.x) && has(x.Area.Y, p.y) })
		// Other crafts and impacts are beside both.
		before := impact(area(5000, 5000, 5000, 5000), 0, 0)
		l, e := hazard.Ships([]api.FlImpact{before, x}, []api.HzCraft{ferry(), c})
		if e != api.OK {
			t.Fatalf("Ships: %d of %v, %v", e, x, c)
		}
		if at < 0 {
			continue
		}
		tick := x.At.Lo + at
		i := slices.IndexFunc(l, func(m api.HzMeet) bool { return m.Craft == 1 && m.Impact == 1 })
		if i < 0 || l[i].Tick > tick || l[i].Tick < x.At.Lo {
			t.Fatalf("Ships = %v, and it is there at %d of %v, %v", l, tick, x, c)
		}
		named++
		if l[i].Tick < tick {
			earlier++
		}
		// It also meets what is in flight there.
		s := stay(1, x.Area, only(course[tick].z))
		if l, e := hazard.Meets(s, tick, []api.HzCraft{c}); !slices.Equal(l, []api.HzMeet{{Tick: tick}}) || e != api.OK {
			t.Fatalf("Meets = %v, %d at %d of %v", l, e, tick, c)
		}
	}
	if named < 200 || earlier < 50 {
		t.Errorf("%d are named, %d of them earlier", named, earlier)
	}
}

// P4.14, P4.15
func TestNoticeCovers(t *testing.T) {
	r := rand.New(rand.NewSource(414))
	for range 5000 {
		far := []int{10, 3000000, 900000000}[r.Intn(3)]
		a, b, c, d := beside(r, far), beside(r, far), beside(r, far), beside(r, far)
		from := r.Intn(97000)
		x := impact(area(min(a, b), max(a, b), min(c, d), max(c, d)), from, from+r.Intn(3001))
		number, margin, slack := 1+r.Intn(9999), r.Intn(2000000), r.Intn(2000)
		for range 2 {
			s, e := hazard.Notice(x, number, margin, slack)
			if e != api.OK {
				t.Fatalf("Notice: %d of %v", e, x)
			}
			n, e := hazard.Parse(s)
			if e != api.OK || n.Number != number || n.Cancel || n.From > x.At.Lo || n.Until < x.At.Hi {
				t.Fatalf("Parse = %v, %d of %q of %v", n, e, s, x)
			}
			if got, e := hazard.Covers([]string{s}, x); got != number || e != api.OK {
				t.Fatalf("Covers = %d, %d of %q, %v", got, e, s, x)
			}
			for _, tick := range []int{x.At.Lo, x.At.Hi, pick(r, x.At)} {
				if l, e := hazard.Force([]string{s}, tick); !slices.Equal(l, []api.HzNotice{n}) || e != api.OK {
					t.Fatalf("Force = %v, %d of %q at %d", l, e, s, tick)
				}
			}
			margin, slack = margin+r.Intn(1000000000), min(slack+r.Intn(100000), api.MaxTick)
		}
	}
}

// P4.14: what Parse reads is written in one way only.
func TestOneWay(t *testing.T) {
	r := rand.New(rand.NewSource(4141))
	read := 0
	for range 50000 {
		s := mangled(r, noticeString(randomNotice(r)))
		n, e := hazard.Parse(s)
		if e != api.OK {
			continue
		}
		read++
		if noticeString(n) != s {
			t.Fatalf("Parse of %q = %v, as of %q", s, n, noticeString(n))
		}
	}
	if read < 3000 {
		t.Errorf("%d are read", read)
	}
}

// mixed returns two lists of strings as one, each in its order.
func mixed(r *rand.Rand, a, b []string) []string {
	var l []string
	for len(a)+len(b) > 0 {
		if len(b) == 0 || len(a) > 0 && r.Intn(2) == 0 {
			l, a = append(l, a[0]), a[1:]
		} else {
			l, b = append(l, b[0]), b[1:]
		}
	}
	return l
}

// P4.15: more strings about other numbers change nothing about a notice.
func TestOtherNumbers(t *testing.T) {
	r := rand.New(rand.NewSource(415))
	found, covered := 0, 0
	for range 5000 {
		tick, x := r.Intn(400), randomImpact(r)
		x.At = span(x.At.Lo+100, x.At.Hi+110)
		l, more := randomStrings(r), randomStrings(r)
		force, e := hazard.Force(l, tick)
		_, f := hazard.Force(more, tick)
		if e != api.OK || f != api.OK {
			continue
		}
		for i, s := range more { // with numbers from 101 on
			n, _ := hazard.Parse(s)
			n.Number += 100
			more[i] = noticeString(n)
		}
		all := mixed(r, l, more)
		both, e := hazard.Force(all, tick)
		both = slices.DeleteFunc(both, func(n api.HzNotice) bool { return n.Number > 100 })
		if !slices.Equal(both, force) || e != api.OK {
			t.Fatalf("Force = %v, %d, and %v of %q, %q at %d", both, e, force, l, all, tick)
		}
		found += len(force)
		n, _ := hazard.Covers(l, x)
		if n == 0 {
			continue
		}
		covered++
		if got, e := hazard.Covers(all, x); got != n || e != api.OK {
			t.Fatalf("Covers = %d, %d, and %d of %q, %q, %v", got, e, n, l, all, x)
		}
	}
	if found < 1000 || covered < 500 {
		t.Errorf("%d in force, %d covered", found, covered)
	}
}

// P4.15: a notice that covers an impact is in force at each tick of its At.
func TestCoversAtEachTick(t *testing.T) {
	r := rand.New(rand.NewSource(4151))
	covered := 0
	for range 3000 {
		l, x := randomStrings(r), randomImpact(r)
		x.At = span(x.At.Lo+100, x.At.Hi+110)
		n, e := hazard.Covers(l, x)
		if e != api.OK || n == 0 {
			continue
		}
		covered++
		for tick := x.At.Lo; tick <= x.At.Hi; tick++ {
			force, e := hazard.Force(l, tick)
			if e != api.OK || !slices.ContainsFunc(force, func(x api.HzNotice) bool { return x.Number == n }) {
				t.Fatalf("Force = %v, %d, and not %d of %q at %d", force, e, n, l, tick)
			}
		}
	}
	if covered < 300 {
		t.Errorf("%d are covered", covered)
	}
}

// P4.16: the arguments are as they were after all calls.
func TestArgumentsStay(t *testing.T) {
	r := rand.New(rand.NewSource(4161))
	for range 500 {
		m, law := randomMap(r), randomLaw(r)
		a := randomArea(r, m)
		s, _ := randomSpread(r, m, a, law)
		crafts, impacts := randomCrafts(r), []api.FlImpact{over(a), randomImpact(r)}
		laws, states, strs := []api.HzLaw{law, randomLaw(r)}, stay(5, a, only(r.Intn(20))), randomStrings(r)
		m2, s2, crafts2, impacts2, laws2, states2, strs2 := cloneMap(m), cloneSpread(s), cloneCrafts(crafts), slices.Clone(impacts), slices.Clone(laws), slices.Clone(states), slices.Clone(strs)
		hazard.Check(m)
		hazard.Cells(m, a)
		hazard.Cell(m, api.Place{X: a.X.Lo, Y: a.Y.Hi})
		hazard.Most(m, a, law)
		hazard.Prove(m, a, law, s)
		hazard.Risk(m, impacts, laws)
		for _, c := range crafts {
			hazard.CheckCraft(c)
			hazard.Where(c, r.Intn(100))
		}
		hazard.Ships(impacts, crafts)
		hazard.Meets(states, r.Intn(50), crafts)
		hazard.Force(strs, r.Intn(300))
		hazard.Covers(strs, impacts[1])
		if !sameMap(m, m2) || !sameSpread(s, s2) || !sameCrafts(crafts, crafts2) || !slices.Equal(impacts, impacts2) || !slices.Equal(laws, laws2) || !slices.Equal(states, states2) || !slices.Equal(strs, strs2) {
			t.Fatalf("%v, %v, %v, %v, %v, %v, %q are other ones", m, s, crafts, impacts, laws, states, strs)
		}
	}
}

// P4.16: who changes a result changes neither the arguments nor a later result.
func TestResultsAreNew(t *testing.T) {
	m, a, impacts, crafts := example(), wide(), []api.FlImpact{splash()}, []api.HzCraft{ferry()}
	strs := []string{about(9, 100, 200, 1, 2), about(4, 100, 200, 1, 2)}
	for range 2 {
		cells, _, _ := hazard.Cells(m, a)
		s, _, _ := hazard.Most(m, a, law(300000))
		ships, _ := hazard.Ships(impacts, crafts)
		meets, _ := hazard.Meets(stay(1, splash().Area, only(0)), 250, crafts)
		force, _ := hazard.Force(strs, 150)
		if !slices.Equal(cells, []int{0, 1, 2, 3, 4, 5}) || !sameSpread(s, greatest()) || !slices.Equal(ships, []api.HzMeet{{Tick: 240}}) || !slices.Equal(meets, []api.HzMeet{{Tick: 250}}) || len(force) != 2 || force[0].Number != 4 {
			t.Errorf("%v, %v, %v, %v, %v", cells, s, ships, meets, force)
		}
		clear(cells)
		clear(s.Parts)
		clear(ships)
		clear(meets)
		clear(force)
	}
	if !sameMap(m, example()) || !sameCrafts(crafts, []api.HzCraft{ferry()}) || impacts[0] != splash() || strs[1] != about(4, 100, 200, 1, 2) {
		t.Errorf("%v, %v, %v, %q", m, crafts, impacts, strs)
	}
}

// change sets some of the numbers to odd ones.
func change(r *rand.Rand, numbers ...*int) {
	for range r.Intn(3) {
		*numbers[r.Intn(len(numbers))] = odd(r)
	}
}

func oddImpact(r *rand.Rand) api.FlImpact {
	x := randomImpact(r)
	change(r, &x.Piece, &x.Area.X.Lo, &x.Area.X.Hi, &x.Area.Y.Lo, &x.Area.Y.Hi, &x.At.Lo, &x.At.Hi)
	return x
}

func oddCraft(r *rand.Rand, name string) api.HzCraft {
	c, _ := randomCraft(r, name, r.Intn(4) == 0)
	s := &c.Sights[r.Intn(len(c.Sights))]
	change(r, &c.Speed, &c.Climb, &c.Low, &c.High, &s.Tick, &s.Place.X, &s.Place.Y, &s.Height, &s.Error)
	if r.Intn(20) == 0 {
		c.Sights = nil
	}
	return c
}

// P4.16: no arguments make a function with a map panic, and with an error all other results are zero.
func TestAnyMap(t *testing.T) {
	r := rand.New(rand.NewSource(4162))
	for range 20000 {
		m, law := randomMap(r), randomLaw(r)
		a := randomArea(r, m)
		s, _ := randomSpread(r, m, a, law)
		change(r, &m.Corner.X, &m.Corner.Y, &m.Size, &m.Cols, &m.Rows, &m.People[r.Intn(len(m.People))], &a.X.Lo, &a.X.Hi, &a.Y.Lo, &a.Y.Hi)
		change(r, &law.Lethal, &law.Cap, &s.Out, &s.Price)
		if len(s.Parts) > 0 {
			p := &s.Parts[r.Intn(len(s.Parts))]
			change(r, &p.Cell, &p.Parts)
		}
		part, at, e := hazard.Check(m)
		if (part == 0) != (e == api.OK) || part < 2 && at != 0 {
			t.Fatalf("Check = %d, %d, %d", part, at, e)
		}
		cells, out, e1 := hazard.Cells(m, a)
		cell, e2 := hazard.Cell(m, api.Place{X: odd(r), Y: odd(r)})
		spread, most, e3 := hazard.Most(m, a, law)
		people, e4 := hazard.Prove(m, a, law, s)
		risk, e5 := hazard.Risk(m, []api.FlImpact{over(a), oddImpact(r)}, []api.HzLaw{law, randomLaw(r)})
		if e1 != api.OK && (len(cells) > 0 || out) || e2 != api.OK && cell != 0 || e3 != api.OK && (most != 0 || !sameSpread(spread, api.HzSpread{})) || e4 != api.OK && people != 0 || e5 != api.OK && risk != (api.HzRisk{}) {
			t.Fatalf("a result that is not zero with an error, of %v, %v, %v, %v", m, a, law, s)
		}
		if is, e := hazard.Within(api.HzRisk{Num: odd(r), Den: odd(r)}, api.HzRisk{Num: odd(r), Den: odd(r)}); is && e != api.OK {
			t.Fatalf("Within = %t, %d", is, e)
		}
	}
}

// P4.16: nor do those of another function.
func TestAnyArguments(t *testing.T) {
	r := rand.New(rand.NewSource(4163))
	for range 10000 {
		var crafts []api.HzCraft
		for i := range r.Intn(3) {
			crafts = append(crafts, oddCraft(r, "a"+strconv.Itoa(i)))
			c := crafts[i]
			at, e := hazard.CheckCraft(c)
			a, height, f := hazard.Where(c, odd(r))
			if e == api.OK && at != 0 || at < -1 || at > max(len(c.Sights)-1, 0) || e != api.OK && f != e || f != api.OK && (a != (api.Area{}) || height != (api.Span{})) {
				t.Fatalf("CheckCraft = %d, %d; Where = %v, %v, %d of %v", at, e, a, height, f, c)
			}
		}
		x := oddImpact(r)
		ships, e1 := hazard.Ships([]api.FlImpact{randomImpact(r), x}, crafts)
		states := stay(r.Intn(5), x.Area, x.At)
		for i := range states {
			s := &states[i]
			change(r, &s.X.Lo, &s.X.Hi, &s.Y.Lo, &s.Z.Hi, &s.VX.Lo, &s.VX.Hi)
		}
		meets, e2 := hazard.Meets(states, odd(r), crafts)
		s, e3 := hazard.Notice(x, odd(r), odd(r), odd(r))
		strs := append(randomStrings(r), mangled(r, noticeString(randomNotice(r))), strings.Repeat("9", r.Intn(30)))
		n, e4 := hazard.Parse(strs[len(strs)-2])
		force, e5 := hazard.Force(strs[:len(strs)-r.Intn(3)], odd(r))
		number, e6 := hazard.Covers(strs[:len(strs)-r.Intn(3)], x)
		if e1 != api.OK && len(ships) > 0 || e2 != api.OK && len(meets) > 0 || e3 != api.OK && s != "" || e4 != api.OK && n != (api.HzNotice{}) || e5 != api.OK && len(force) > 0 || e6 != api.OK && number != 0 {
			t.Fatalf("a result that is not zero with an error, of %v, %v, %v, %q", x, crafts, states, strs)
		}
	}
	if l, e := hazard.Meets(make([]api.FlState, 3), math.MaxInt, nil); len(l) > 0 || e != api.ErrRange {
		t.Errorf("Meets = %v, %d", l, e)
	}
}
