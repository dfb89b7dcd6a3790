package hazard

import (
	"cmp"
	"slices"

	"hangfire/api"
)

// fall is what is known of a piece that comes down in an area of a map: the people of all cells, the cells that the area meets, whether it is also outside, and the greatest part that a cell can have.
type fall struct {
	people []int
	cells  []int
	out    bool
	most   int
}

// look returns what is known of a piece, or the first error of the map, the area and the law.
func look(m api.HzMap, a api.Area, law api.HzLaw) (fall, api.Errno) {
	l, out, e := Cells(m, a)
	if e != api.OK {
		return fall{}, e
	}
	if !isIn(law.Lethal, 0, api.MaxHzLethal) || !isIn(law.Cap, 1, api.Million) {
		return fall{}, api.ErrArg
	}
	return fall{people: m.People, cells: l, out: out, most: law.Cap}, api.OK
}

// ranked returns the cells that the area meets, those with most people first.
func (f fall) ranked() []int {
	l := slices.Clone(f.cells)
	slices.SortStableFunc(l, func(a, b int) int { return cmp.Compare(f.people[b], f.people[a]) })
	return l
}

// greatest returns the greatest spread, and whether there is one.
func (f fall) greatest() (s api.HzSpread, ok bool) {
	s.Out = api.Million
	give := func(cell int) {
		if n := min(f.most, s.Out); n > 0 {
			s.Parts = append(s.Parts, api.HzPart{Cell: cell, Parts: n})
			s.Out -= n
			s.Price = f.people[cell]
		}
	}
	for _, cell := range f.ranked() {
		give(cell)
	}
	slices.SortFunc(s.Parts, func(a, b api.HzPart) int { return cmp.Compare(a.Cell, b.Cell) })
	if s.Out > 0 {
		s.Price = 0
	}
	return s, s.Out == 0 || f.out
}

// reached returns the people of a spread.
func (f fall) reached(s api.HzSpread) int {
	sum := 0
	for _, p := range s.Parts {
		sum += p.Parts * f.people[p.Cell]
	}
	return sum
}

// bound returns the bound of a price.
func (f fall) bound(price int) int {
	sum := api.Million * price
	for _, cell := range f.cells {
		sum += f.most * max(f.people[cell]-price, 0)
	}
	return sum
}

// isSpread reports whether a spread has parts of cells that the area meets, ascending, and Out and Price as stated.
func (f fall) isSpread(s api.HzSpread) bool {
	before := -1
	for _, p := range s.Parts {
		if _, met := slices.BinarySearch(f.cells, p.Cell); !met || p.Cell <= before {
			return false
		}
		before = p.Cell
	}
	return isIn(s.Out, 0, api.Million) && (s.Out == 0 || f.out) && isIn(s.Price, 0, api.MaxHzPeople)
}

// prove returns the first error of a spread.
func (f fall) prove(s api.HzSpread) api.Errno {
	if !f.isSpread(s) {
		return api.ErrArg
	}
	all := s.Out
	for _, p := range s.Parts {
		if !isIn(p.Parts, 1, f.most) {
			return api.HzErrCap
		}
		all += p.Parts
	}
	switch {
	case all != api.Million:
		return api.HzErrSum
	case f.reached(s) != f.bound(s.Price):
		return api.HzErrPrice
	}
	return api.OK
}

// Most returns the spread in which most people are where a piece comes down, and how many, in millionths.
func Most(m api.HzMap, a api.Area, law api.HzLaw) (s api.HzSpread, people int, e api.Errno) {
	f, e := look(m, a, law)
	if e != api.OK {
		return api.HzSpread{}, 0, e
	}
	s, ok := f.greatest()
	if !ok {
		return api.HzSpread{}, 0, api.ErrDown
	}
	return s, f.reached(s), api.OK
}

// Prove checks that a spread is one in which most people are where a piece comes down.
func Prove(m api.HzMap, a api.Area, law api.HzLaw, s api.HzSpread) (people int, e api.Errno) {
	f, e := look(m, a, law)
	if e != api.OK {
		return 0, e
	}
	if e := f.prove(s); e != api.OK {
		return 0, e
	}
	return f.reached(s), api.OK
}
