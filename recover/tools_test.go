package recover_test

import (
	"math"
	"math/rand"
	"slices"
	"testing"

	"hangfire/api"
	"hangfire/recover"
)

// What a visit is of, if it is not of a cell; and when a cell opens that never does.
const base, never = -1, -1

func span(lo, hi int) api.Span { return api.Span{Lo: lo, Hi: hi} }

func only(n int) api.Span { return span(n, n) }

// area is the area with these ends of X, and then of Y.
func area(a, b, c, d int) api.Area { return api.Area{X: span(a, b), Y: span(c, d)} }

func place(x, y int) api.Place { return api.Place{X: x, Y: y} }

func visit(cell, from, until int) api.RcVisit {
	return api.RcVisit{Cell: cell, From: from, Until: until}
}

func left(cell, why int) api.RcLeft { return api.RcLeft{Cell: cell, Why: why} }

// plan is a plan of visits, with nothing left.
func plan(l ...api.RcVisit) api.RcPlan { return api.RcPlan{Visits: l} }

// chute is the parachute C of the chapter's examples.
func chute() api.RcChute { return api.RcChute{Height: 300000, Fall: span(50, 60)} }

// bands are the bands L of the chapter's examples.
func bands() []api.WnBand {
	return []api.WnBand{
		{From: 0, To: 200000, X: span(600, 780), Y: span(-150, 80)},
		{From: 200000, To: 1000000, X: span(640, 740), Y: span(-110, 240)},
	}
}

// calm is a band of still air up to a height.
func calm(to int) []api.WnBand { return []api.WnBand{{To: to}} }

// impact is the one of the chapter's examples.
func impact() api.FlImpact { return api.FlImpact{Area: area(0, 1000, 0, 1000), At: span(500, 510)} }

// example is the task T of the chapter's examples.
func example() api.RcTask {
	return api.RcTask{
		Area:  area(0, 2999, 0, 1999),
		Size:  1000,
		Fixes: []api.RcFix{{X: -1000, Y: 500, DX: 1, Tan: 200}},
		Owners: []api.RcOwner{
			{Name: "farm", Area: area(2000, 5000, 0, 999), Grant: 100},
			{Name: "lake", Area: area(2500, 2600, 1500, 1600), Grant: never},
		},
		Base:  place(-2000, 500),
		Speed: 100,
		Fuel:  200,
		Look:  10,
		Turn:  20,
	}
}

// changed returns the task T with a change.
func changed(change func(t *api.RcTask)) api.RcTask {
	t := example()
	change(&t)
	return t
}

// row returns a task with some cells of 11 mm in a row along X: their middles are 5, 16, 27 .. mm from Base, and a flight takes a tick for each mm.
func row(n int) api.RcTask {
	return api.RcTask{Area: area(0, 11*n-1, 0, 10), Size: 11, Base: place(0, 5), Speed: 1, Fuel: 1000, Look: 3, Turn: 4}
}

// owned returns the task with an owner of an area.
func owned(t api.RcTask, a api.Area, grant int) api.RcTask {
	t.Owners = append(slices.Clone(t.Owners), api.RcOwner{Name: "owner-" + string(rune('a'+len(t.Owners))), Area: a, Grant: grant})
	return t
}

// cellsOf returns the cells of a task without an error.
func cellsOf(t *testing.T, x api.RcTask) []api.RcCell {
	t.Helper()
	l, e := recover.Cells(x)
	if e != api.OK {
		t.Fatalf("Cells of %v = %d", x, e)
	}
	return l
}

// searchOf returns the search of a task without an error.
func searchOf(t *testing.T, x api.RcTask) api.RcPlan {
	t.Helper()
	p, e := recover.Search(x)
	if e != api.OK {
		t.Fatalf("Search of %v = %d", x, e)
	}
	return p
}

func samePlan(a, b api.RcPlan) bool {
	return slices.Equal(a.Visits, b.Visits) && slices.Equal(a.Left, b.Left)
}

func sameTask(a, b api.RcTask) bool {
	return a.Area == b.Area && a.Size == b.Size && slices.Equal(a.Fixes, b.Fixes) && slices.Equal(a.Owners, b.Owners) &&
		a.Base == b.Base && a.Start == b.Start && a.Speed == b.Speed && a.Fuel == b.Fuel && a.Look == b.Look && a.Turn == b.Turn
}

func cloneTask(t api.RcTask) api.RcTask {
	t.Fixes, t.Owners = slices.Clone(t.Fixes), slices.Clone(t.Owners)
	return t
}

func clonePlan(p api.RcPlan) api.RcPlan {
	return api.RcPlan{Visits: slices.Clone(p.Visits), Left: slices.Clone(p.Left)}
}

func isZero(p api.RcPlan) bool { return samePlan(p, api.RcPlan{}) }

// pick returns one of some numbers.
func pick(r *rand.Rand, l ...int) int { return l[r.Intn(len(l))] }

// near returns a number from -n to n.
func near(r *rand.Rand, n int) int { return r.Intn(2*n+1) - n }

// nearPlace returns a place whose parts are at most n.
func nearPlace(r *rand.Rand, n int) api.Place { return place(near(r, n), near(r, n)) }

// randomSpan returns a span of at most n numbers.
func randomSpan(r *rand.Rand, far, n int) api.Span {
	lo := near(r, far)
	return span(lo, lo+r.Intn(n))
}

// randomFix returns a fix whose place is at most n from 0, most often one that is towards an area.
func randomFix(r *rand.Rand, n int, a api.Area) api.RcFix {
	f := api.RcFix{X: near(r, n), Y: near(r, n), Tan: pick(r, 0, 100, 500, 1000, 2000, r.Intn(2001))}
	k := pick(r, 1, 3, 10, 1000)
	for f.DX == 0 && f.DY == 0 {
		f.DX, f.DY = near(r, k), near(r, k)
	}
	p := placeIn(r, a)
	if x, y := p.X-f.X, p.Y-f.Y; r.Intn(6) > 0 && (x != 0 || y != 0) {
		long := max(x, -x, y, -y)
		f.DX, f.DY = 1000*x/long, 1000*y/long
	}
	return f
}

// placeIn returns a place of an area.
func placeIn(r *rand.Rand, a api.Area) api.Place {
	return place(a.X.Lo+r.Intn(a.X.Hi-a.X.Lo+1), a.Y.Lo+r.Intn(a.Y.Hi-a.Y.Lo+1))
}

// small returns a task without an error, whose area is small, so that it can be read place by place and tick by tick.
func small(r *rand.Rand) api.RcTask {
	t := api.RcTask{
		Area:  api.Area{X: randomSpan(r, 30, 25), Y: randomSpan(r, 30, 25)},
		Size:  3 + r.Intn(12),
		Base:  nearPlace(r, 40),
		Start: r.Intn(20),
		Speed: 1 + r.Intn(6),
		Fuel:  1 + r.Intn(120),
		Look:  1 + r.Intn(8),
		Turn:  r.Intn(8),
	}
	for ((t.Area.X.Hi-t.Area.X.Lo)/t.Size+1)*((t.Area.Y.Hi-t.Area.Y.Lo)/t.Size+1) > 30 {
		t.Size++
	}
	for range pick(r, 0, 0, 1, 1, 2, 3) {
		t.Fixes = append(t.Fixes, randomFix(r, 40, t.Area))
	}
	for range pick(r, 0, 1, 1, 2, 3, 4) {
		p := placeIn(r, t.Area)
		t = owned(t, area(p.X-r.Intn(15), p.X+r.Intn(8), p.Y-r.Intn(15), p.Y+r.Intn(8)), pick(r, never, 0, r.Intn(60), r.Intn(60), r.Intn(200), r.Intn(200)))
	}
	return t
}

// great returns a task without an error, whose area may be as great as possible.
func great(r *rand.Rand) api.RcTask {
	far := pick(r, 100, 10000, 1000000, api.MaxRcPlace)
	ends := func() api.Span {
		a, b := near(r, far), near(r, far)
		return span(min(a, b), max(a, b))
	}
	t := api.RcTask{Area: api.Area{X: ends(), Y: ends()}, Base: nearPlace(r, far), Start: r.Intn(api.MaxTick + 1), Turn: r.Intn(6001), Look: 1 + r.Intn(6000)}
	t.Size = max((t.Area.X.Hi-t.Area.X.Lo)/7, (t.Area.Y.Hi-t.Area.Y.Lo)/7) + 1
	t.Speed = min(1+r.Intn(far/50), api.MaxSpeed)
	t.Fuel = 1 + r.Intn(pick(r, 100, 10000, 100000))
	for range pick(r, 0, 1, 1, 2, 6) {
		t.Fixes = append(t.Fixes, randomFix(r, far, t.Area))
	}
	for range r.Intn(7) {
		t = owned(t, api.Area{X: ends(), Y: ends()}, pick(r, never, r.Intn(100001), r.Intn(100001), r.Intn(1000), 0))
	}
	return t
}

// randomBands returns bands without an error, most of which are thin.
func randomBands(r *rand.Rand) []api.WnBand {
	var l []api.WnBand
	from, fast := 0, pick(r, 1, 20, 20000)
	for range 1 + r.Intn(5) {
		x, y := near(r, fast), near(r, fast)
		to := from + 1 + r.Intn(40)
		l = append(l, api.WnBand{From: from, To: to, X: span(x, x+r.Intn(fast-x+1)), Y: span(y, y+r.Intn(fast-y+1))})
		from = to
	}
	return l
}

// randomChute returns a parachute that opens at some height up to one.
func randomChute(r *rand.Rand, height int) api.RcChute {
	fast := pick(r, 3, 30, 10000)
	lo := 1 + r.Intn(fast)
	return api.RcChute{Height: 1 + r.Intn(height), Fall: span(lo, lo+r.Intn(fast-lo+1))}
}

// randomImpact returns an impact without an error.
func randomImpact(r *rand.Rand) api.FlImpact {
	return api.FlImpact{Piece: r.Intn(7), Area: api.Area{X: randomSpan(r, 500, 300), Y: randomSpan(r, 500, 300)}, At: span(r.Intn(50), 50+r.Intn(50))}
}

// heightOf returns up to where bands reach.
func heightOf(l []api.WnBand) int { return l[len(l)-1].To }

// odd returns a number that is often beyond all limits.
func odd(r *rand.Rand) int {
	return pick(r, math.MinInt, math.MinInt+1, -1000000001, -1000000000, -100000001, -100000000, -1001, -1000, -2, -1, 0, 1, 2, 3, 6, 7, 60, 61, 1000, 1001, 2000, 2001, 6000, 6001, 10000, 10001, 100000, 100001, 1000000, 1000001,
		100000000, 100000001, 1000000000, 1000000001, 2000000000, 2000000001, math.MaxInt-1, math.MaxInt, r.Intn(20), int(r.Uint64()))
}

// change sets some of the numbers to odd ones.
func change(r *rand.Rand, numbers ...*int) {
	for range r.Intn(3) {
		*numbers[r.Intn(len(numbers))] = odd(r)
	}
}
