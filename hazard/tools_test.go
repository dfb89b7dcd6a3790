package hazard_test

import (
	"math"
	"math/rand"
	"slices"

	"hangfire/api"
)

func span(lo, hi int) api.Span { return api.Span{Lo: lo, Hi: hi} }

func only(n int) api.Span { return span(n, n) }

// area is the area with these ends of X, and then of Y.
func area(a, b, c, d int) api.Area { return api.Area{X: span(a, b), Y: span(c, d)} }

func has(s api.Span, n int) bool { return s.Lo <= n && n <= s.Hi }

// lies reports whether the span a is in the span b.
func lies(a, b api.Span) bool { return b.Lo <= a.Lo && a.Hi <= b.Hi }

// example is the map M of the chapter's examples.
func example() api.HzMap {
	return api.HzMap{Size: 1000, Cols: 3, Rows: 2, People: []int{5, 100, 0, 20, 100, 7}}
}

// wide is the area of the chapter's examples that meets all its cells, and is not outside.
func wide() api.Area { return area(0, 2999999, 0, 1999999) }

func law(most int) api.HzLaw { return api.HzLaw{Lethal: 10, Cap: most} }

// ferry is the ship S of the chapter's examples.
func ferry() api.HzCraft {
	return api.HzCraft{Name: "ferry", Speed: 500, Sights: []api.HzSight{
		{Tick: 100, Error: 1000},
		{Tick: 200, Place: api.Place{X: 40000}},
	}}
}

// plane is a craft that climbs.
func plane() api.HzCraft {
	return api.HzCraft{Name: "plane-1", Speed: 1000, Climb: 10, Low: 500, High: 9000, Sights: []api.HzSight{
		{Tick: 10, Place: api.Place{X: -7000, Y: 2000}, Height: 3000, Error: 100},
	}}
}

// splash is the impact of the chapter's examples.
func splash() api.FlImpact {
	return api.FlImpact{Area: area(60000, 70000, 0, 0), At: span(220, 260)}
}

// stay returns n states that are all the same, at places of an area and heights.
func stay(n int, a api.Area, z api.Span) []api.FlState {
	var l []api.FlState
	for range n {
		l = append(l, api.FlState{X: a.X, Y: a.Y, Z: z})
	}
	return l
}

func cloneMap(m api.HzMap) api.HzMap {
	m.People = slices.Clone(m.People)
	return m
}

func sameMap(a, b api.HzMap) bool {
	return a.Corner == b.Corner && a.Size == b.Size && a.Cols == b.Cols && a.Rows == b.Rows && slices.Equal(a.People, b.People)
}

func cloneSpread(s api.HzSpread) api.HzSpread {
	s.Parts = slices.Clone(s.Parts)
	return s
}

func sameSpread(a, b api.HzSpread) bool {
	return a.Out == b.Out && a.Price == b.Price && slices.Equal(a.Parts, b.Parts)
}

func cloneCrafts(l []api.HzCraft) []api.HzCraft {
	l = slices.Clone(l)
	for i := range l {
		l[i].Sights = slices.Clone(l[i].Sights)
	}
	return l
}

func sameCraft(a, b api.HzCraft) bool {
	return a.Name == b.Name && a.Speed == b.Speed && a.Climb == b.Climb && a.Low == b.Low && a.High == b.High && slices.Equal(a.Sights, b.Sights)
}

func sameCrafts(a, b []api.HzCraft) bool { return slices.EqualFunc(a, b, sameCraft) }

// beside returns a number that is at most so far from 0.
func beside(r *rand.Rand, far int) int { return r.Intn(2*far+1) - far }

// pick returns a number of a span, often an end.
func pick(r *rand.Rand, s api.Span) int {
	return []int{s.Lo, s.Hi, s.Lo + r.Intn(s.Hi-s.Lo+1)}[r.Intn(3)]
}

// randomMap returns a map of few cells of 1 to 3 m, often with the same people in several of them.
func randomMap(r *rand.Rand) api.HzMap {
	m := api.HzMap{Corner: api.Place{X: beside(r, 5000), Y: beside(r, 5000)}, Size: 1 + r.Intn(3), Cols: 1 + r.Intn(4), Rows: 1 + r.Intn(4)}
	kinds := 1 + r.Intn(20)
	for range m.Cols * m.Rows {
		m.People = append(m.People, r.Intn(kinds))
	}
	return m
}

// randomEnds returns a span whose ends are often at those of cells, and mostly not outside of all of them.
func randomEnds(r *rand.Rand, corner, side, n int) api.Span {
	end := func() int { return corner + side*(r.Intn(n+3)-1) + []int{-1, 0, 1, r.Intn(side)}[r.Intn(4)] }
	a, b := end(), end()
	if r.Intn(10) == 0 {
		b = a
	}
	s := span(min(a, b), max(a, b))
	if r.Intn(4) > 0 {
		last := corner + side*n - 1
		s = span(min(max(s.Lo, corner), last), min(max(s.Hi, corner), last))
	}
	return s
}

func randomArea(r *rand.Rand, m api.HzMap) api.Area {
	return api.Area{X: randomEnds(r, m.Corner.X, 1000*m.Size, m.Cols), Y: randomEnds(r, m.Corner.Y, 1000*m.Size, m.Rows)}
}

// randomLaw returns a law whose cap is often so small that there is no spread of a few cells.
func randomLaw(r *rand.Rand) api.HzLaw {
	return api.HzLaw{Lethal: r.Intn(100), Cap: []int{1, 100000, 250000, 500000, api.Million, 1 + r.Intn(api.Million)}[r.Intn(6)]}
}

// randomCraft returns one of which a course is known that it can have had, from the tick 0 to 60. Some of its sights are wrong, if it is to lie.
func randomCraft(r *rand.Rand, name string, lies bool) (api.HzCraft, []room) {
	c := api.HzCraft{Name: name, Speed: r.Intn(5), Climb: r.Intn(3), Low: r.Intn(20)}
	c.High = c.Low + r.Intn(20)
	at := room{beside(r, 40), beside(r, 40), c.Low + r.Intn(c.High-c.Low+1)}
	var course []room
	for range 61 {
		course = append(course, at)
		at.x += beside(r, c.Speed)
		at.y += beside(r, c.Speed)
		at.z = min(max(at.z+beside(r, c.Climb), c.Low), c.High)
	}
	for tick := r.Intn(20); len(c.Sights) == 0 || tick <= 60 && len(c.Sights) < 10; tick += 1 + r.Intn(30) {
		s := api.HzSight{Tick: tick, Error: r.Intn(10)}
		s.Place = api.Place{X: course[tick].x + beside(r, s.Error), Y: course[tick].y + beside(r, s.Error)}
		s.Height = max(course[tick].z+beside(r, s.Error), 0)
		if lies && r.Intn(4) == 0 {
			s.Error = r.Intn(s.Error + 1)
			s.Place.X += beside(r, 20)
			s.Height = r.Intn(40)
		}
		c.Sights = append(c.Sights, s)
	}
	return c, course
}

// room is where a craft is at a tick.
type room struct{ x, y, z int }

// randomImpact returns one that is not far from the random crafts.
func randomImpact(r *rand.Rand) api.FlImpact {
	x, y, at := beside(r, 80), beside(r, 80), r.Intn(50)
	return api.FlImpact{Piece: r.Intn(3), Area: area(x, x+r.Intn(20), y, y+r.Intn(20)), At: span(at, at+r.Intn(10))}
}

// odd returns a number that is often beyond all limits.
func odd(r *rand.Rand) int {
	return []int{math.MinInt, math.MinInt + 1, -api.MaxPlace - 1, -api.MaxPlace, -1, 0, 1, 2, api.MaxTick, api.MaxTick + 1, api.Million, api.MaxPlace, api.MaxPlace + 1, math.MaxInt - 1, math.MaxInt, r.Intn(1000), int(r.Uint64())}[r.Intn(17)]
}
