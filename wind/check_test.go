package wind_test

import (
	"math"
	"testing"

	"hangfire/api"
	"hangfire/wind"
)

// wrong are changes of the example, and what Check then returns.
var wrong = []struct {
	change   func(x *api.WnTask)
	part, at int
	e        api.Errno
}{
	{func(x *api.WnTask) {}, 0, 0, api.OK},
	{func(x *api.WnTask) { *x = api.WnTask{Cuts: []int{1}} }, 0, 0, api.OK},
	{func(x *api.WnTask) { *x = api.WnTask{} }, 1, 0, api.ErrLong},
	// Part 1.
	{func(x *api.WnTask) { x.Sources = make([]api.WnSource, 7) }, 1, 0, api.ErrLong},
	{func(x *api.WnTask) { x.Sources = make([]api.WnSource, 6) }, 2, 0, api.ErrForm},
	{func(x *api.WnTask) { *x = api.WnTask{Sources: manySources(6), Cuts: []int{1}} }, 0, 0, api.OK},
	{func(x *api.WnTask) { x.Soundings = make([]api.WnSounding, 61) }, 1, 0, api.ErrLong},
	{func(x *api.WnTask) { x.Soundings = manySoundings(60) }, 0, 0, api.OK},
	{func(x *api.WnTask) { x.Cuts = nil }, 1, 0, api.ErrLong},
	{func(x *api.WnTask) { x.Cuts = []int{} }, 1, 0, api.ErrLong},
	{func(x *api.WnTask) { x.Cuts = make([]int, 21) }, 1, 0, api.ErrLong},
	{func(x *api.WnTask) { x.Cuts = manyCuts(20) }, 0, 0, api.OK},
	{func(x *api.WnTask) { x.Cuts, x.Sources[0].Name = nil, "" }, 1, 0, api.ErrLong},
	// Part 2.
	{func(x *api.WnTask) { x.Sources[1].Name = "Blue" }, 2, 1, api.ErrForm},
	{func(x *api.WnTask) { x.Sources[1].Name = "mast" }, 2, 1, api.ErrTwice},
	{func(x *api.WnTask) { x.Sources[2].Name = "mast" }, 2, 2, api.ErrTwice},
	{func(x *api.WnTask) { x.Sources[1].Name, x.Sources[1].Kind = "mast", 0 }, 2, 1, api.ErrTwice},
	{func(x *api.WnTask) { x.Sources[0].Name, x.Sources[1].Name = "", "" }, 2, 0, api.ErrForm},
	{func(x *api.WnTask) { x.Sources[1].Name, x.Sources[0].Kind = "mast", 0 }, 2, 0, api.ErrArg},
	{func(x *api.WnTask) { x.Sources[0].Kind = 0 }, 2, 0, api.ErrArg},
	{func(x *api.WnTask) { x.Sources[1].Kind = 4 }, 2, 1, api.ErrArg},
	{func(x *api.WnTask) { x.Sources[1].Kind = -1 }, 2, 1, api.ErrArg},
	{func(x *api.WnTask) { x.Sources[1].Kind, x.Sources[1].Error = 4, -1 }, 2, 1, api.ErrArg},
	{func(x *api.WnTask) { x.Sources[0].Error = 0 }, 0, 0, api.OK},
	{func(x *api.WnTask) { x.Sources[0].Error = -1 }, 2, 0, api.ErrRange},
	{func(x *api.WnTask) { x.Sources[0].Error = 5000 }, 0, 0, api.OK},
	{func(x *api.WnTask) { x.Sources[0].Error = 5001 }, 2, 0, api.ErrRange},
	{func(x *api.WnTask) { x.Sources[2].Late = -1 }, 2, 2, api.ErrRange},
	{func(x *api.WnTask) { x.Sources[2].Late = 6000 }, 0, 0, api.OK},
	{func(x *api.WnTask) { x.Sources[2].Late = 6001 }, 2, 2, api.ErrRange},
	{func(x *api.WnTask) { x.Sources[0].Life = 0 }, 2, 0, api.ErrRange},
	{func(x *api.WnTask) { x.Sources[0].Life = 1 }, 0, 0, api.OK},
	{func(x *api.WnTask) { x.Sources[0].Life = 60000 }, 0, 0, api.OK},
	{func(x *api.WnTask) { x.Sources[0].Life = 60001 }, 2, 0, api.ErrRange},
	{func(x *api.WnTask) { x.Sources[0].Low = -1 }, 2, 0, api.ErrRange},
	{func(x *api.WnTask) { x.Sources[0].High = api.MaxWnHeight - 1 }, 0, 0, api.OK},
	{func(x *api.WnTask) { x.Sources[0].High = api.MaxWnHeight }, 2, 0, api.ErrRange},
	{func(x *api.WnTask) { x.Sources[0].Low = 300001 }, 2, 0, api.ErrRange},
	{func(x *api.WnTask) { x.Sources[0].Low, x.Sources[0].High = 100000, 100000 }, 0, 0, api.OK},
	{func(x *api.WnTask) { x.Sources[0].Low, x.Sources[0].High = math.MaxInt, math.MaxInt }, 2, 0, api.ErrRange},
	{func(x *api.WnTask) { x.Sources[1].Error, x.Soundings[0].Source = -1, 9 }, 2, 1, api.ErrRange},
	// Part 3.
	{func(x *api.WnTask) { x.Soundings[2].Source = 3 }, 3, 2, api.ErrNone},
	{func(x *api.WnTask) { x.Soundings[2].Source = -1 }, 3, 2, api.ErrNone},
	{func(x *api.WnTask) { x.Soundings[2].Source, x.Soundings[2].Tick = 3, -1 }, 3, 2, api.ErrNone},
	{func(x *api.WnTask) { x.Soundings[0].Tick = 0 }, 0, 0, api.OK},
	{func(x *api.WnTask) { x.Soundings[0].Tick = -1 }, 3, 0, api.ErrRange},
	{func(x *api.WnTask) { x.Soundings[0].Tick = api.MaxTick }, 0, 0, api.OK},
	{func(x *api.WnTask) { x.Soundings[0].Tick = api.MaxTick + 1 }, 3, 0, api.ErrRange},
	{func(x *api.WnTask) { x.Soundings[0].Height = 300000 }, 0, 0, api.OK},
	{func(x *api.WnTask) { x.Soundings[0].Height = 300001 }, 3, 0, api.ErrRange},
	{func(x *api.WnTask) { x.Soundings[3].Height = 50000 }, 0, 0, api.OK},
	{func(x *api.WnTask) { x.Soundings[3].Height = 49999 }, 3, 3, api.ErrRange},
	{func(x *api.WnTask) { x.Soundings[0].X, x.Soundings[0].Y = 20000, -20000 }, 0, 0, api.OK},
	{func(x *api.WnTask) { x.Soundings[0].X, x.Soundings[0].Y = -20000, 20000 }, 0, 0, api.OK},
	{func(x *api.WnTask) { x.Soundings[0].X = 20001 }, 3, 0, api.ErrRange},
	{func(x *api.WnTask) { x.Soundings[0].X = -20001 }, 3, 0, api.ErrRange},
	{func(x *api.WnTask) { x.Soundings[0].Y = 20001 }, 3, 0, api.ErrRange},
	{func(x *api.WnTask) { x.Soundings[0].Y = -20001 }, 3, 0, api.ErrRange},
	{func(x *api.WnTask) { x.Soundings[2].Tick, x.Soundings[2].Height = 1000, 100000 }, 3, 2, api.ErrTwice},
	{func(x *api.WnTask) { x.Soundings[3] = x.Soundings[0] }, 3, 3, api.ErrTwice},
	{func(x *api.WnTask) { x.Soundings[3] = api.WnSounding{Source: 0, Tick: 1000, Height: 100000, X: 7} }, 3, 3, api.ErrTwice},
	{func(x *api.WnTask) { x.Soundings[3] = api.WnSounding{Source: 0, Tick: 1001, Height: 100000} }, 0, 0, api.OK},
	{func(x *api.WnTask) { x.Soundings[3] = api.WnSounding{Source: 0, Tick: 1000, Height: 100001} }, 0, 0, api.OK},
	{func(x *api.WnTask) { x.Soundings[3] = api.WnSounding{Source: 2, Tick: 1000, Height: 100000} }, 0, 0, api.OK},
	{func(x *api.WnTask) {
		x.Soundings[3] = api.WnSounding{Source: 1, Tick: 1000, Height: 100000}
	}, 3, 3, api.ErrTwice},
	// A balloon rises, and it alone has to.
	{func(x *api.WnTask) { x.Soundings[2].Tick = 999 }, 3, 2, api.ErrArg},
	{func(x *api.WnTask) { x.Soundings[2].Tick = 1000 }, 0, 0, api.OK},
	{func(x *api.WnTask) { x.Soundings[2].Height = 99999 }, 3, 2, api.ErrArg},
	{func(x *api.WnTask) { x.Soundings[2].Height = 100000 }, 0, 0, api.OK},
	{func(x *api.WnTask) { x.Soundings[2].Tick, x.Sources[1].Kind = 999, api.WnTower }, 0, 0, api.OK},
	{func(x *api.WnTask) { x.Soundings[2].Height, x.Sources[1].Kind = 99999, api.WnLidar }, 0, 0, api.OK},
	{func(x *api.WnTask) { x.Soundings[3] = api.WnSounding{Source: 1, Tick: 1599, Height: 600001} }, 3, 3, api.ErrArg},
	{func(x *api.WnTask) { x.Soundings[3] = api.WnSounding{Source: 1, Tick: 1601, Height: 599999} }, 3, 3, api.ErrArg},
	{func(x *api.WnTask) { x.Soundings[3] = api.WnSounding{Source: 1, Tick: 1600, Height: 600001} }, 0, 0, api.OK},
	{func(x *api.WnTask) { x.Soundings[3] = api.WnSounding{Source: 1, Tick: 999, Height: 0, Y: 20001} }, 3, 3, api.ErrRange},
	{func(x *api.WnTask) {
		x.Soundings = append(x.Soundings, api.WnSounding{Source: 1, Tick: 1599, Height: 600000})
	}, 3, 4, api.ErrArg},
	{func(x *api.WnTask) { x.Soundings = x.Soundings[1:]; x.Soundings[1].Tick = 999 }, 3, 1, api.ErrArg},
	{func(x *api.WnTask) { x.Soundings[0].Source, x.Cuts[0] = 9, 0 }, 3, 0, api.ErrNone},
	// Part 4.
	{func(x *api.WnTask) { x.Cuts[0] = 0 }, 4, 0, api.ErrRange},
	{func(x *api.WnTask) { x.Cuts[0] = -1 }, 4, 0, api.ErrRange},
	{func(x *api.WnTask) { x.Cuts[0] = 1 }, 0, 0, api.OK},
	{func(x *api.WnTask) { x.Cuts[1] = 0 }, 4, 1, api.ErrRange},
	{func(x *api.WnTask) { x.Cuts[1] = 199999 }, 4, 1, api.ErrArg},
	{func(x *api.WnTask) { x.Cuts[1] = 200000 }, 4, 1, api.ErrArg},
	{func(x *api.WnTask) { x.Cuts[1] = 200001 }, 0, 0, api.OK},
	{func(x *api.WnTask) { x.Cuts[1] = api.MaxWnHeight }, 0, 0, api.OK},
	{func(x *api.WnTask) { x.Cuts[1] = api.MaxWnHeight + 1 }, 4, 1, api.ErrRange},
	{func(x *api.WnTask) { x.Cuts = []int{5, 4, 0} }, 4, 1, api.ErrArg},
	{func(x *api.WnTask) { x.Cuts[0], x.Age = 0, -1 }, 4, 0, api.ErrRange},
	// Part 5.
	{func(x *api.WnTask) { x.Age, x.Shear = 0, 0 }, 0, 0, api.OK},
	{func(x *api.WnTask) { x.Age, x.Shear = 1000, 1000 }, 0, 0, api.OK},
	{func(x *api.WnTask) { x.Age = 1001 }, 5, 0, api.ErrRange},
	{func(x *api.WnTask) { x.Age = -1 }, 5, 0, api.ErrRange},
	{func(x *api.WnTask) { x.Shear = 1001 }, 5, 0, api.ErrRange},
	{func(x *api.WnTask) { x.Shear = -1 }, 5, 0, api.ErrRange},
}

func manySources(n int) []api.WnSource {
	var l []api.WnSource
	for i := range n {
		l = append(l, api.WnSource{Name: string(rune('a' + i)), Kind: 1 + i%3, Life: 1})
	}
	return l
}

// manySoundings are n soundings of the mast.
func manySoundings(n int) []api.WnSounding {
	var l []api.WnSounding
	for i := range n {
		l = append(l, api.WnSounding{Tick: i})
	}
	return l
}

func manyCuts(n int) []int {
	var l []int
	for i := range n {
		l = append(l, i+1)
	}
	return l
}

// P1.3
func TestCheck(t *testing.T) {
	for i, c := range wrong {
		x := example()
		c.change(&x)
		if part, at, e := wind.Check(x); part != c.part || at != c.at || e != c.e {
			t.Errorf("%d: Check = %d, %d, %d", i, part, at, e)
		}
	}
}

// All functions with a task return the error of Check first, whatever the other arguments are.
func TestCheckFirst(t *testing.T) {
	for i, c := range wrong {
		if c.e == api.OK {
			continue
		}
		x := example()
		c.change(&x)
		for _, n := range []int{0, -1, 200000} {
			known, e1 := wind.Known(x, n)
			doubt, e2 := wind.Doubt(x, n, n, n)
			sx, sy, e3 := wind.Says(x, n, n, n, n)
			blame, agree, e4 := wind.Blame(x, n, n, n)
			ax, ay, e5 := wind.At(x, n, n, n)
			bands, e6 := wind.Bands(x, n, n)
			file, e7 := wind.Write(x)
			for j, e := range []api.Errno{e1, e2, e3, e4, e5, e6, e7} {
				if e != c.e {
					t.Errorf("%d: function %d by %d: %d", i, j, n, e)
				}
			}
			if len(known)+doubt+len(blame)+len(bands)+len(file) != 0 || agree || sx != none || sy != none || ax != none || ay != none {
				t.Errorf("%d: a result that is not zero, by %d", i, n)
			}
		}
	}
}
