package hazard_test

import (
	"math"
	"testing"

	"hangfire/api"
	"hangfire/hazard"
)

func part(cell, parts int) api.HzPart { return api.HzPart{Cell: cell, Parts: parts} }

func spread(out, price int, parts ...api.HzPart) api.HzSpread {
	return api.HzSpread{Parts: parts, Out: out, Price: price}
}

// greatest is the greatest spread of the whole map of the examples by the Cap 300000.
func greatest() api.HzSpread {
	return spread(0, 7, part(1, 300000), part(3, 300000), part(4, 300000), part(5, 100000))
}

// P4.2
func TestMost(t *testing.T) {
	m := example()
	for i, c := range []struct {
		a      api.Area
		most   int
		s      api.HzSpread
		people int
		e      api.Errno
	}{
		{wide(), 300000, greatest(), 66700000, api.OK},
		{area(0, 0, 0, 0), 300000, api.HzSpread{}, 0, api.ErrDown},
		{area(-1, 0, 0, 0), 300000, spread(700000, 0, part(0, 300000)), 1500000, api.OK},
		{wide(), 1000000, spread(0, 100, part(1, 1000000)), 100000000, api.OK},
		{wide(), 500000, spread(0, 100, part(1, 500000), part(4, 500000)), 100000000, api.OK},
		{wide(), 999999, spread(0, 100, part(1, 999999), part(4, 1)), 100000000, api.OK},
		{wide(), 200000, spread(0, 5, part(0, 200000), part(1, 200000), part(3, 200000), part(4, 200000), part(5, 200000)), 46400000, api.OK},
		{wide(), 166667, spread(0, 0, part(0, 166667), part(1, 166667), part(2, 166665), part(3, 166667), part(4, 166667), part(5, 166667)), 38666744, api.OK},
		{wide(), 166666, api.HzSpread{}, 0, api.ErrDown},
		{wide(), 1, api.HzSpread{}, 0, api.ErrDown},
		// A cell without people gets its part before the outside does.
		{area(2000000, 3000000, 0, 0), 1000000, spread(0, 0, part(2, 1000000)), 0, api.OK},
		{area(2000000, 3000000, 0, 0), 400000, spread(600000, 0, part(2, 400000)), 0, api.OK},
		// All is given, and nothing is left for the outside: the price is that of the last cell.
		{area(-1, 1999999, 0, 0), 500000, spread(0, 5, part(0, 500000), part(1, 500000)), 52500000, api.OK},
		{area(-1, 1999999, 0, 0), 499999, spread(2, 0, part(0, 499999), part(1, 499999)), 52499895, api.OK},
		{area(-1, 2999999, 1000000, 1000000), 333333, spread(1, 0, part(3, 333333), part(4, 333333), part(5, 333333)), 42333291, api.OK},
		{area(5000000, 5000000, 0, 0), 1, spread(1000000, 0), 0, api.OK},
		{area(1, 0, 0, 0), 300000, api.HzSpread{}, 0, api.ErrRange},
		{area(1, 0, 0, 0), 0, api.HzSpread{}, 0, api.ErrRange},
		{wide(), 0, api.HzSpread{}, 0, api.ErrArg},
		{wide(), -1, api.HzSpread{}, 0, api.ErrArg},
		{wide(), 1000001, api.HzSpread{}, 0, api.ErrArg},
		{wide(), math.MaxInt, api.HzSpread{}, 0, api.ErrArg},
		{wide(), math.MinInt, api.HzSpread{}, 0, api.ErrArg},
	} {
		if s, n, e := hazard.Most(m, c.a, law(c.most)); !sameSpread(s, c.s) || n != c.people || e != c.e {
			t.Errorf("%d: Most = %v, %d, %d", i, s, n, e)
		}
	}
	for _, c := range []struct {
		lethal int
		e      api.Errno
	}{{0, api.OK}, {10000, api.OK}, {-1, api.ErrArg}, {10001, api.ErrArg}, {math.MinInt, api.ErrArg}, {math.MaxInt, api.ErrArg}} {
		_, n, e := hazard.Most(m, wide(), api.HzLaw{Lethal: c.lethal, Cap: 1000000})
		_, f := hazard.Prove(m, wide(), api.HzLaw{Lethal: c.lethal, Cap: 1000000}, spread(0, 100, part(1, 1000000)))
		if e != c.e || f != c.e || (e == api.OK) != (n == 100000000) {
			t.Errorf("Most with Lethal %d = %d, %d; Prove: %d", c.lethal, n, e, f)
		}
	}
}

// P4.2: the greatest numbers there are.
func TestMostPeople(t *testing.T) {
	m := api.HzMap{Size: 100000, Cols: 20, Rows: 20}
	for range 400 {
		m.People = append(m.People, 1000000)
	}
	a := area(0, 1999999999, 0, 1999999999)
	s, n, e := hazard.Most(m, a, law(2500))
	if len(s.Parts) != 400 || s.Parts[399] != part(399, 2500) || s.Price != 1000000 || n != 1000000000000 || e != api.OK {
		t.Errorf("Most = %v, %d, %d", s, n, e)
	}
	if n, e := hazard.Prove(m, a, law(2500), s); n != 1000000000000 || e != api.OK {
		t.Errorf("Prove = %d, %d", n, e)
	}
	s.Price = 0 // its bound is the same, as each cell has its Cap
	if n, e := hazard.Prove(m, a, law(2500), s); n != 1000000000000 || e != api.OK {
		t.Errorf("Prove = %d, %d", n, e)
	}
}

// proveCase is what Prove returns for a spread of the whole map of the examples, by the Cap 300000.
type proveCase struct {
	s api.HzSpread
	n int
	e api.Errno
}

func runProofs(t *testing.T, a api.Area, l []proveCase) {
	t.Helper()
	for i, c := range l {
		if n, e := hazard.Prove(example(), a, law(300000), c.s); n != c.n || e != c.e {
			t.Errorf("%d: Prove = %d, %d", i, n, e)
		}
	}
}

// P4.3
func TestProve(t *testing.T) {
	change := func(f func(s *api.HzSpread)) api.HzSpread {
		s := greatest()
		f(&s)
		return s
	}
	runProofs(t, wide(), []proveCase{
		{greatest(), 66700000, api.OK},
		{change(func(s *api.HzSpread) { s.Price = 8 }), 0, api.HzErrPrice},
		{change(func(s *api.HzSpread) { s.Price = 6 }), 0, api.HzErrPrice},
		{change(func(s *api.HzSpread) { s.Price = 0 }), 0, api.HzErrPrice},
		{change(func(s *api.HzSpread) { s.Price = 1000000 }), 0, api.HzErrPrice},
		{change(func(s *api.HzSpread) { s.Price = 1000001 }), 0, api.ErrArg},
		{change(func(s *api.HzSpread) { s.Price = -1 }), 0, api.ErrArg},
		{change(func(s *api.HzSpread) { s.Price = math.MinInt }), 0, api.ErrArg},
		{change(func(s *api.HzSpread) { s.Out = 1 }), 0, api.ErrArg},
		{change(func(s *api.HzSpread) { s.Out = -1 }), 0, api.ErrArg},
		{spread(0, 7, part(1, 200000), part(3, 300000), part(4, 300000), part(5, 200000)), 0, api.HzErrPrice},
		// Cells that are not ascending, or not there.
		{change(func(s *api.HzSpread) { s.Parts[0], s.Parts[1] = s.Parts[1], s.Parts[0] }), 0, api.ErrArg},
		{spread(0, 7, part(1, 300000), part(3, 300000), part(4, 300000), part(5, 50000), part(5, 50000)), 0, api.ErrArg},
		{spread(0, 7, part(1, 300000), part(1, 300000), part(3, 300000), part(5, 100000)), 0, api.ErrArg},
		{change(func(s *api.HzSpread) { s.Parts[3].Cell = 6 }), 0, api.ErrArg},
		{change(func(s *api.HzSpread) { s.Parts[0].Cell = -1 }), 0, api.ErrArg},
		{change(func(s *api.HzSpread) { s.Parts[3].Cell = math.MaxInt }), 0, api.ErrArg},
		{change(func(s *api.HzSpread) { s.Parts[0].Cell = math.MinInt }), 0, api.ErrArg},
		// Parts.
		{change(func(s *api.HzSpread) { s.Parts[0].Parts = 300001 }), 0, api.HzErrCap},
		{change(func(s *api.HzSpread) { s.Parts[3].Parts = 0 }), 0, api.HzErrCap},
		{change(func(s *api.HzSpread) { s.Parts[3].Parts = -1 }), 0, api.HzErrCap},
		{change(func(s *api.HzSpread) { s.Parts[3].Parts = math.MaxInt }), 0, api.HzErrCap},
		{change(func(s *api.HzSpread) { s.Parts[3].Parts = math.MinInt }), 0, api.HzErrCap},
		{change(func(s *api.HzSpread) { s.Parts[3].Parts = 99999 }), 0, api.HzErrSum},
		{change(func(s *api.HzSpread) { s.Parts[3].Parts = 100001 }), 0, api.HzErrSum},
		{change(func(s *api.HzSpread) { s.Parts = s.Parts[:3] }), 0, api.HzErrSum},
		{api.HzSpread{}, 0, api.HzErrSum},
		// Of several errors the first one, of whichever element.
		{change(func(s *api.HzSpread) { s.Parts[0].Parts, s.Parts[3].Cell = 0, 6 }), 0, api.ErrArg},
		{change(func(s *api.HzSpread) { s.Parts[0].Parts, s.Price = 0, -1 }), 0, api.ErrArg},
		{change(func(s *api.HzSpread) { s.Parts[0].Parts, s.Out = 0, 1 }), 0, api.ErrArg},
		{change(func(s *api.HzSpread) { s.Parts[0].Parts, s.Price = 0, 8 }), 0, api.HzErrCap},
		{change(func(s *api.HzSpread) { s.Parts[0].Parts, s.Price = 1, 8 }), 0, api.HzErrSum},
	})
}

// P4.3: areas that do not meet all cells, or are also outside.
func TestProveElsewhere(t *testing.T) {
	out := area(-1, 999999, 0, 1000000) // meets the cells 0 and 3, with 5 and 20 people
	runProofs(t, out, []proveCase{
		{spread(400000, 0, part(0, 300000), part(3, 300000)), 7500000, api.OK},
		{spread(400000, 1, part(0, 300000), part(3, 300000)), 0, api.HzErrPrice},
		{spread(400001, 0, part(0, 299999), part(3, 300000)), 0, api.HzErrPrice},
		{spread(400001, 0, part(0, 300000), part(3, 300000)), 0, api.HzErrSum},
		{spread(700000, 0, part(3, 300000)), 0, api.HzErrPrice},
		{spread(1000000, 0), 0, api.HzErrPrice},
		{spread(1000001, 0), 0, api.ErrArg},
		{spread(math.MaxInt, 0), 0, api.ErrArg},
		{spread(-1, 0), 0, api.ErrArg},
		{spread(400000, 0, part(1, 300000), part(3, 300000)), 0, api.ErrArg},
		{spread(400000, 0, part(0, 300000), part(4, 300000)), 0, api.ErrArg},
	})
	runProofs(t, area(5000000, 5000000, 0, 0), []proveCase{
		{spread(1000000, 0), 0, api.OK},
		{spread(1000000, 1), 0, api.HzErrPrice},
		{spread(999999, 0), 0, api.HzErrSum},
		{spread(0, 0), 0, api.HzErrSum},
		{spread(0, 0, part(0, 1)), 0, api.ErrArg},
	})
	runProofs(t, area(1, 0, 0, 0), []proveCase{{spread(0, 0), 0, api.ErrRange}})
	for _, l := range []api.HzLaw{{Lethal: -1, Cap: 1}, {Lethal: 0, Cap: 0}} {
		if n, e := hazard.Prove(example(), wide(), l, spread(0, -1)); n != 0 || e != api.ErrArg {
			t.Errorf("Prove = %d, %d", n, e)
		}
		if n, e := hazard.Prove(example(), area(1, 0, 0, 0), l, greatest()); n != 0 || e != api.ErrRange {
			t.Errorf("Prove = %d, %d", n, e)
		}
	}
	// The Cap is that of the law: what is the greatest spread by one is none, or not the greatest one, by another one.
	if n, e := hazard.Prove(example(), wide(), law(299999), greatest()); n != 0 || e != api.HzErrCap {
		t.Errorf("Prove = %d, %d", n, e)
	}
	if n, e := hazard.Prove(example(), wide(), law(300001), greatest()); n != 0 || e != api.HzErrPrice {
		t.Errorf("Prove = %d, %d", n, e)
	}
}
