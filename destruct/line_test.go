package destruct_test

import (
	"math"
	"slices"
	"testing"

	"hangfire/api"
	"hangfire/destruct"
)

// P6.3, with the examples of the chapter.
func TestLines(t *testing.T) {
	slope := example()
	slope.Lines = []api.DeLine{{A: 3, B: -2, Keep: 25, Line: 40}, {A: -1, B: -1, Keep: -4, Line: -2}}
	for i, c := range []struct {
		p     api.DePlan
		a     api.Area
		side  []int
		keeps bool
		sure  int
	}{
		{example(), area(span(600, 670), span(-30, 30)), []int{199330, 79970}, true, -1},
		{example(), area(span(200001, 200005), only(0)), []int{-5, 80000}, false, 0},
		{example(), area(span(200000, 200005), only(0)), []int{-5, 80000}, false, -1},
		{example(), area(span(199999, 200001), only(0)), []int{-1, 80000}, false, -1},
		{example(), area(only(0), span(-80003, -80001)), []int{200000, -3}, false, 1},
		{example(), area(only(0), span(-80003, -80000)), []int{200000, -3}, false, -1},
		{example(), area(span(200001, 200002), span(-80003, -80001)), []int{-2, -3}, false, 0},
		{example(), area(span(200000, 200002), span(-80003, -80001)), []int{-2, -3}, false, 1},
		// All of it is beyond some line, but beyond no single one.
		{example(), area(span(200000, 200002), span(-80003, -80000)), []int{-2, -3}, false, -1},
		{example(), area(span(-5, 100000), span(-50000, 5)), []int{100000, 30000}, true, -1},
		{example(), area(span(-5, 100001), span(-50000, 5)), []int{99999, 30000}, false, -1},
		{example(), area(span(-5, 100000), span(-50001, 5)), []int{100000, 29999}, false, -1},
		{example(), area(span(-far, far), span(-far, far)), []int{200000 - far, 80000 - far}, false, -1},
		// The greatest measure is that of another corner by each line: of 5, 0 and of 1, 3.
		{slope, area(span(1, 5), span(0, 3)), []int{25, -1}, false, -1},
		{slope, area(span(4, 5), span(0, 3)), []int{25, 2}, true, -1},
		{slope, area(span(4, 9), span(1, 3)), []int{15, 3}, true, -1},
		{slope, area(span(4, 10), span(1, 3)), []int{12, 3}, false, -1},
		{slope, area(span(15, 20), span(1, 1)), []int{-18, 14}, false, 0},
		{slope, area(span(14, 20), span(1, 1)), []int{-18, 13}, false, -1},
		{slope, area(span(-9, 0), span(-5, 1)), []int{30, -16}, false, 1},
		{slope, area(span(-9, 1), span(-5, 1)), []int{27, -16}, false, -1},
		{slope, area(span(-9, 0), span(-5, 2)), []int{30, -16}, false, -1},
	} {
		side, e := destruct.Side(c.p, c.a)
		keeps, f := destruct.Keeps(c.p, c.a)
		is, line, g := destruct.Sure(c.p, c.a)
		if !slices.Equal(side, c.side) || keeps != c.keeps || is != (c.sure >= 0) || line != c.sure || e != api.OK || f != api.OK || g != api.OK {
			t.Errorf("%d: Side = %v, %d; Keeps = %t, %d; Sure = %t, %d, %d", i, side, e, keeps, f, is, line, g)
		}
	}
}

// P6.3: with the greatest numbers.
func TestLinesFarAway(t *testing.T) {
	p := example()
	p.Lines = []api.DeLine{{A: 1000, B: -1000, Keep: offset, Line: offset}, {A: -1000, B: 1000, Keep: -offset, Line: -offset}}
	corner := area(only(far), only(-far))
	side, e := destruct.Side(p, corner)
	keeps, f := destruct.Keeps(p, corner)
	is, line, g := destruct.Sure(p, corner)
	if !slices.Equal(side, []int{0, 0}) || !keeps || is || line != -1 || e != api.OK || f != api.OK || g != api.OK {
		t.Errorf("Side = %v, %d; Keeps = %t, %d; Sure = %t, %d, %d", side, e, keeps, f, is, line, g)
	}
	all := area(span(-far, far), span(-far, far))
	side, _ = destruct.Side(p, all)
	if keeps, _ = destruct.Keeps(p, all); !slices.Equal(side, []int{0, -2 * offset}) || keeps {
		t.Errorf("Side = %v; Keeps = %t", side, keeps)
	}
	other := area(only(-far), only(far))
	if is, line, _ = destruct.Sure(p, other); !is || line != 1 {
		t.Errorf("Sure = %t, %d", is, line)
	}
}

// P6.3: areas that are not valid.
func TestAreas(t *testing.T) {
	for _, c := range []struct {
		s api.Span
		e api.Errno
	}{
		{span(-far, far), api.OK}, {only(far), api.OK}, {only(-far), api.OK}, {span(-far-1, 0), api.ErrRange}, {span(0, far+1), api.ErrRange},
		{span(1, 0), api.ErrRange}, {span(-4, -5), api.ErrRange}, {only(far + 1), api.ErrRange}, {only(-far - 1), api.ErrRange},
		{span(math.MinInt, 0), api.ErrRange}, {span(0, math.MaxInt), api.ErrRange}, {span(math.MaxInt, math.MinInt), api.ErrRange},
		{span(math.MinInt, math.MaxInt), api.ErrRange},
	} {
		for _, a := range []api.Area{area(c.s, only(0)), area(only(0), c.s), area(c.s, c.s)} {
			side, e := destruct.Side(example(), a)
			keeps, f := destruct.Keeps(example(), a)
			is, line, g := destruct.Sure(example(), a)
			if e != c.e || f != c.e || g != c.e || e != api.OK && (len(side) > 0 || keeps || is || line != 0) {
				t.Errorf("%v: Side = %v, %d; Keeps = %t, %d; Sure = %t, %d, %d", a, side, e, keeps, f, is, line, g)
			}
		}
	}
}
