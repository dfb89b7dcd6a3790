package frame_test

import (
	"math"
	"slices"
	"testing"

	"hangfire/api"
	"hangfire/frame"
)

// skyCase is a change of the sky S, and what CheckSky returns of it.
type skyCase struct {
	change func(s *api.FrSky)
	at     int
	e      api.Errno
}

func runSkies(t *testing.T, l []skyCase) {
	t.Helper()
	for i, x := range l {
		s := changedSky(x.change)
		if at, e := frame.CheckSky(example(), s); at != x.at || e != x.e {
			t.Errorf("%d: CheckSky of %v = %d, %d", i, s, at, e)
		}
		// With reports that are not valid either.
		if axes, e := frame.Axes(example(), s, []api.FrReport{{}}); x.e != api.OK && (e != x.e || axes != nil) {
			t.Errorf("%d: Axes = %v, %d", i, axes, e)
		}
	}
}

// P9.7: how much there may be.
func TestCheckSkyLong(t *testing.T) {
	dirs := func(n int) func(*api.FrSky) {
		return func(s *api.FrSky) { s.Dirs = slices.Repeat([]api.FlDir{{Z: 10000}}, n) }
	}
	sensors := func(n int) func(*api.FrSky) {
		return func(s *api.FrSky) { s.Sensors = slices.Repeat([]api.FrSensor{{Scale: 1}}, n) }
	}
	runSkies(t, []skyCase{
		{func(*api.FrSky) {}, 0, api.OK},
		{dirs(0), 0, api.ErrLong},
		{dirs(1), 0, api.OK},
		{dirs(30), 0, api.OK},
		{dirs(31), 0, api.ErrLong},
		{dirs(1000), 0, api.ErrLong},
		{sensors(0), 0, api.OK},
		{sensors(6), 0, api.OK},
		{sensors(7), 0, api.ErrLong},
	})
}

// P9.7: numbers.
func TestCheckSkyNumbers(t *testing.T) {
	for _, n := range []int{math.MinInt, math.MinInt + 1, -100000001, -100000000, -1000001, -1000000, -10001, -10000, -1, 0, 1, 1000, 1001, 10000, 10001, 1000000, 1000001, 64000000, 100000000, 100000001, math.MaxInt} {
		within := func(lo, hi, at int, of func(s *api.FrSky) *int) {
			x := skyCase{change: func(s *api.FrSky) { *of(s) = n }}
			if n < lo || n > hi {
				x.at, x.e = at, api.ErrRange
			}
			runSkies(t, []skyCase{x})
		}
		within(-100000000, 100000000, 0, func(s *api.FrSky) *int { return &s.Turn })
		for i := range 3 {
			// Parts, where any product with itself is great enough.
			lax := func(s *api.FrSky) *api.FlDir { s.Turn = -1; return &s.Dirs[i] }
			within(-10000, 10000, i, func(s *api.FrSky) *int { return &lax(s).X })
			within(-10000, 10000, i, func(s *api.FrSky) *int { return &lax(s).Y })
			within(-10000, 10000, i, func(s *api.FrSky) *int { return &lax(s).Z })
		}
		for i := range 2 {
			within(-1000000, 1000000, i, func(s *api.FrSky) *int { return &s.Sensors[i].X })
			within(-1000000, 1000000, i, func(s *api.FrSky) *int { return &s.Sensors[i].Y })
			within(-1000000, 1000000, i, func(s *api.FrSky) *int { return &s.Sensors[i].Z })
			within(1, 1000, i, func(s *api.FrSky) *int { return &s.Sensors[i].Scale })
			within(0, 1000000, i, func(s *api.FrSky) *int { return &s.Sensors[i].Error })
			channel := skyCase{change: func(s *api.FrSky) { s.Sensors[i].Channel = n }}
			if n != 0 && n != 1 {
				channel.at, channel.e = i, api.ErrNone
			}
			runSkies(t, []skyCase{channel})
		}
	}
}

// P9.7: the product of a direction with itself.
func TestCheckSkyTurn(t *testing.T) {
	short := func(x, y, z int) func(*api.FrSky) {
		return func(s *api.FrSky) { s.Dirs[1] = api.FlDir{X: x, Y: y, Z: z} }
	}
	runSkies(t, []skyCase{
		{short(-6000, 5000, 3000), 0, api.OK}, // 70000000
		{short(-6000, 5000, 2999), 1, api.ErrArg},
		{short(0, 0, 8366), 1, api.ErrArg}, // 69989956
		{short(0, 8367, 0), 0, api.OK},     // 70006689
		{short(0, 0, 0), 1, api.ErrArg},
		{func(s *api.FrSky) { s.Turn = 100000000 }, 0, api.OK},
		{func(s *api.FrSky) { s.Turn, s.Dirs[2] = 0, api.FlDir{} }, 0, api.OK},
		{func(s *api.FrSky) { s.Turn, s.Dirs[2] = 1, api.FlDir{} }, 2, api.ErrArg},
		{func(s *api.FrSky) { s.Turn, s.Dirs[2] = -100000000, api.FlDir{} }, 0, api.OK},
		{func(s *api.FrSky) { s.Turn, s.Dirs[2] = 100000000, api.FlDir{X: 10000, Y: -10000, Z: 10000} }, 0, api.OK},
	})
}

// P9.7: which error comes first.
func TestCheckSkyOrder(t *testing.T) {
	runSkies(t, []skyCase{
		{func(s *api.FrSky) { s.Dirs, s.Turn = nil, math.MaxInt }, 0, api.ErrLong},
		{func(s *api.FrSky) { s.Sensors, s.Turn = make([]api.FrSensor, 7), math.MaxInt }, 0, api.ErrLong},
		{func(s *api.FrSky) { s.Turn, s.Dirs[1].X = 100000001, 10001 }, 0, api.ErrRange},
		{func(s *api.FrSky) { s.Dirs[1], s.Dirs[2].X = api.FlDir{}, 10001 }, 1, api.ErrArg},
		{func(s *api.FrSky) { s.Dirs[1] = api.FlDir{X: -10001} }, 1, api.ErrRange},
		{func(s *api.FrSky) { s.Dirs[1] = api.FlDir{X: 10001} }, 1, api.ErrRange},
		{func(s *api.FrSky) { s.Dirs[2], s.Sensors[0].Channel = api.FlDir{}, -1 }, 2, api.ErrArg},
		{func(s *api.FrSky) { s.Sensors[0].Scale, s.Sensors[1].Channel = 0, 2 }, 0, api.ErrRange},
		{func(s *api.FrSky) { s.Sensors[1] = api.FrSensor{Channel: 2, Scale: 0} }, 1, api.ErrNone},
	})
	f := changed(func(f *api.FrFormat) { f.Channels[b].Word = 1 })
	if at, e := frame.CheckSky(f, api.FrSky{}); at != 0 || e != api.ErrRange {
		t.Errorf("CheckSky with a format that has an error = %d, %d", at, e)
	}
	if at, e := frame.CheckSky(api.FrFormat{Sync: "A", Words: 1, Depth: 1}, sky()); at != 0 || e != api.ErrNone {
		t.Errorf("CheckSky without channels = %d, %d", at, e)
	}
}

// at returns the axes of a number.
func at(number int, dirs ...int) api.FrAxes { return api.FrAxes{Number: number, Dirs: dirs} }

// marked returns a report that is marked.
func marked(number int, words ...int) api.FrReport {
	return api.FrReport{Number: number, Marked: true, Words: words}
}

func leads(t *testing.T, f api.FrFormat, s api.FrSky, l []api.FrReport, want ...api.FrAxes) {
	t.Helper()
	if axes, e := frame.Axes(f, s, l); !same(axes, want) || e != api.OK {
		t.Errorf("Axes of %v = %v, %d, and not %v", l, axes, e, want)
	}
}

// P9.7: the examples, and what reports leave.
func TestAxes(t *testing.T) {
	f, s := example(), sky()
	leads(t, f, s, []api.FrReport{said(0, 34368), said(1, 35768)}, at(0, 1, 2), at(1, 1))
	leads(t, f, s, []api.FrReport{said(0, 34368), said(2, 34768)}, at(0, 1, 2), at(1, 0, 1, 2), at(2, 0))
	leads(t, f, s, []api.FrReport{marked(1, 35768), said(2, 34368)}, at(1, 0, 1, 2), at(2, 1, 2))
	leads(t, f, s, nil)
	leads(t, f, s, []api.FrReport{})
	// b is not in the frame 0, and a not in the frame 1.
	leads(t, f, s, []api.FrReport{said(0, 35768)}, at(0))
	leads(t, f, s, []api.FrReport{said(1, 34368)}, at(1))
	// From 1 the axis can turn to 0, and only then to 2. What is empty stays so.
	leads(t, f, s, []api.FrReport{said(1, 35768), marked(2, 0), marked(3, 0)}, at(1, 1), at(2, 0, 1), at(3, 0, 1, 2))
	leads(t, f, s, []api.FrReport{said(1, 35768), marked(4, 0)}, at(1, 1), at(2, 0, 1), at(3, 0, 1, 2), at(4, 0, 1, 2))
	leads(t, f, s, []api.FrReport{said(0, 0), marked(2, 0)}, at(0), at(1), at(2))
	// A marked report says nothing, the other fields of a report do not matter.
	leads(t, f, s, []api.FrReport{marked(1000000, 0)}, at(1000000, 0, 1, 2))
	leads(t, f, s, []api.FrReport{{Number: 999999, Words: []int{35768}, From: -5, Agree: math.MinInt}}, at(999999, 1))
	// Without sensors only turns matter: these are none.
	s.Sensors = nil
	leads(t, f, s, []api.FrReport{said(0, 34368), said(1, 0)}, at(0, 0, 1, 2), at(1, 0, 1, 2))
}

// P9.7: by how much a sensor may be wrong, and what a sun sensor tells in the shade.
func TestAxesAgree(t *testing.T) {
	f := example()
	one := func(k api.FrSensor, d api.FlDir, word int) bool {
		s := api.FrSky{Dirs: []api.FlDir{d}, Turn: -100000000, Sensors: []api.FrSensor{k}}
		axes, e := frame.Axes(f, s, []api.FrReport{said(0, word)})
		if len(axes) != 1 || e != api.OK {
			t.Fatalf("Axes = %v, %d", axes, e)
		}
		return len(axes[0].Dirs) == 1
	}
	up, down := api.FlDir{Z: 10000}, api.FlDir{Z: -10000}
	for i, x := range []struct {
		k    api.FrSensor
		d    api.FlDir
		word int
		want bool
	}{
		{api.FrSensor{Z: 20000, Scale: 10, Error: 500}, up, 34768, true},
		{api.FrSensor{Z: 20000, Scale: 10, Error: 500}, up, 34818, true}, // 20500
		{api.FrSensor{Z: 20000, Scale: 10, Error: 500}, up, 34819, false},
		{api.FrSensor{Z: 20000, Scale: 10, Error: 500}, up, 34718, true}, // 19500
		{api.FrSensor{Z: 20000, Scale: 10, Error: 500}, up, 34717, false},
		{api.FrSensor{Z: 20000, Scale: 10, Error: 500}, down, 30768, true},
		{api.FrSensor{Z: 20000, Scale: 10, Error: 500}, down, 30717, false},
		{api.FrSensor{Z: 20000, Scale: 10, Error: 500}, down, 32768, false},
		{api.FrSensor{Z: 20000, Scale: 10, Error: 500, Sun: true}, up, 34768, true},
		{api.FrSensor{Z: 20000, Scale: 10, Error: 500, Sun: true}, down, 30768, false},
		{api.FrSensor{Z: 20000, Scale: 10, Error: 500, Sun: true}, down, 32768, true},
		{api.FrSensor{Z: 20000, Scale: 10, Error: 500, Sun: true}, down, 32818, true},
		{api.FrSensor{Z: 20000, Scale: 10, Error: 500, Sun: true}, down, 32819, false},
		{api.FrSensor{Z: 20000, Scale: 10, Error: 500, Sun: true}, down, 32718, true},
		{api.FrSensor{Z: 20000, Scale: 10, Error: 500, Sun: true}, down, 32717, false},
		// By less than what one count means, where the product is no multiple of Unit.
		{api.FrSensor{Z: 1, Scale: 1}, api.FlDir{Z: 9999}, 32769, false},
		{api.FrSensor{Z: 1, Scale: 1}, up, 32769, true},
		{api.FrSensor{X: 1, Y: 1, Z: 1, Scale: 1}, api.FlDir{X: 3000, Y: 3000, Z: 4000}, 32769, true},
		{api.FrSensor{X: 1, Y: -1, Z: 1, Scale: 1}, api.FlDir{X: 3000, Y: -3000, Z: 4000}, 32769, true},
		{api.FrSensor{X: 1, Y: -1, Z: 1, Scale: 1}, api.FlDir{X: 3000, Y: 3000, Z: 4000}, 32769, false},
		// The greatest numbers.
		{api.FrSensor{X: 1000000, Y: 1000000, Z: 1000000, Scale: 1000, Error: 1000000}, api.FlDir{X: 10000, Y: 10000, Z: 10000}, 65535, false},
		{api.FrSensor{X: 1000000, Y: 1000000, Z: 1000000, Scale: 1000, Error: 1000000}, api.FlDir{X: 10000, Y: 10000, Z: 10000}, 36768, true},
		{api.FrSensor{X: 1000000, Y: 1000000, Z: 1000000, Scale: 1000, Error: 1000000}, api.FlDir{X: 10000, Y: 10000, Z: 10000}, 36769, false},
		{api.FrSensor{X: -1000000, Y: 1000000, Z: 1000000, Scale: 1000, Error: 1000000}, api.FlDir{X: 10000, Y: -10000, Z: -10000}, 28768, true},
		{api.FrSensor{X: -1000000, Y: 1000000, Z: 1000000, Scale: 1000, Error: 1000000}, api.FlDir{X: 10000, Y: -10000, Z: -10000}, 28767, false},
	} {
		if is := one(x.k, x.d, x.word); is != x.want {
			t.Errorf("%d: %v agrees with %v by %d: %v", i, x.d, x.k, x.word, is)
		}
	}
}

// P9.7: from which direction to which one the axis can turn.
func TestAxesTurn(t *testing.T) {
	f := example()
	// Each one is 60 degrees from the next one.
	s := api.FrSky{Turn: 49990000, Sensors: []api.FrSensor{{Channel: a, X: 10000, Scale: 1}}}
	for _, x := range [][2]int{{10000, 0}, {5000, 8660}, {-5000, 8660}, {-10000, 0}} {
		s.Dirs = append(s.Dirs, api.FlDir{X: x[0], Y: x[1]})
	}
	leads(t, f, s, []api.FrReport{said(0, 42768), marked(3, 0)}, at(0, 0), at(1, 0, 1), at(2, 0, 1, 2), at(3, 0, 1, 2, 3))
	leads(t, f, s, []api.FrReport{said(0, 22768), marked(2, 0)}, at(0, 3), at(1, 2, 3), at(2, 1, 2, 3))
	// In two frames it is not there, in four frames it is.
	leads(t, f, s, []api.FrReport{said(0, 42768), said(2, 22768)}, at(0, 0), at(1, 0, 1), at(2))
	leads(t, f, s, []api.FrReport{said(0, 42768), said(4, 22768)}, at(0, 0), at(1, 0, 1), at(2, 0, 1, 2), at(3, 0, 1, 2, 3), at(4, 3))
	// The product of the last two is just enough, or just too small.
	s.Dirs[3] = api.FlDir{X: -9999}
	s.Turn = 5000 * 9999
	leads(t, f, s, []api.FrReport{said(0, 27768), marked(1, 0)}, at(0, 2), at(1, 1, 2, 3))
	s.Turn++
	leads(t, f, s, []api.FrReport{said(0, 27768), marked(1, 0)}, at(0, 2), at(1, 1, 2))
}

// P9.7: as many directions as there can be, for as long as possible.
func TestAxesMost(t *testing.T) {
	f := example()
	s := api.FrSky{Dirs: slices.Repeat([]api.FlDir{{Z: 10000}}, 30), Turn: 100000000, Sensors: []api.FrSensor{{Channel: a, Z: 10000, Scale: 1}}}
	axes, e := frame.Axes(f, s, []api.FrReport{said(0, 42768), said(300, 42768)})
	if len(axes) != 301 || e != api.OK {
		t.Fatalf("Axes = %d, %d", len(axes), e)
	}
	for i, x := range axes {
		if x.Number != i || len(x.Dirs) != 30 || x.Dirs[29] != 29 {
			t.Errorf("%d: %v", i, x)
		}
	}
}

// P9.7: errors of reports, and their order.
func TestAxesErrors(t *testing.T) {
	for i, x := range []struct {
		l []api.FrReport
		e api.Errno
	}{
		{[]api.FrReport{said(5, 0), said(5, 0)}, api.ErrArg},
		{[]api.FrReport{said(5, 0), said(4, 0)}, api.ErrArg},
		{[]api.FrReport{said(5, 0), said(7, 0), said(6, 0)}, api.ErrArg},
		{[]api.FrReport{said(math.MaxInt, 0), said(math.MinInt, 0)}, api.ErrArg},
		{[]api.FrReport{said(5)}, api.ErrArg},
		{[]api.FrReport{said(5, 0, 0)}, api.ErrArg},
		{[]api.FrReport{said(5, 0), said(6)}, api.ErrArg},
		{[]api.FrReport{marked(5)}, api.ErrArg},
		{[]api.FrReport{said(-1, 0), said(6)}, api.ErrArg},
		{[]api.FrReport{said(5, -1), said(5, 0)}, api.ErrArg},
		{[]api.FrReport{said(0, 0), said(301, 0), said(302)}, api.ErrArg},
		{[]api.FrReport{said(-1, 0)}, api.ErrRange},
		{[]api.FrReport{said(1000001, 0)}, api.ErrRange},
		{[]api.FrReport{said(math.MinInt, 0), said(math.MaxInt, 0)}, api.ErrRange},
		{[]api.FrReport{said(5, 0), said(1000001, 0)}, api.ErrRange},
		{[]api.FrReport{marked(-1, 0)}, api.ErrRange},
		{[]api.FrReport{said(5, -1)}, api.ErrRange},
		{[]api.FrReport{said(5, 65536)}, api.ErrRange},
		{[]api.FrReport{marked(5, 65536)}, api.ErrRange},
		{[]api.FrReport{said(5, 0), said(6, math.MinInt)}, api.ErrRange},
		{[]api.FrReport{said(5, 0), said(306, -1)}, api.ErrRange},
		{[]api.FrReport{said(5, 0), said(306, 0)}, api.ErrLong},
		{[]api.FrReport{said(0, 0), said(1, 0), said(1000000, 0)}, api.ErrLong},
		{[]api.FrReport{said(5, 0), said(305, 0)}, api.OK},
		{[]api.FrReport{said(0, 0), said(1, 65535)}, api.OK},
		{[]api.FrReport{said(1000000, 0)}, api.OK},
	} {
		if axes, e := frame.Axes(example(), sky(), x.l); e != x.e || e != api.OK && axes != nil {
			t.Errorf("%d: Axes of %v = %v, %d", i, x.l, axes, e)
		}
	}
	// As many reports as there are numbers.
	var l []api.FrReport
	for n := range 302 {
		l = append(l, marked(100+n, 0))
	}
	if axes, e := frame.Axes(example(), sky(), l[:301]); len(axes) != 301 || e != api.OK {
		t.Errorf("Axes of 301 reports = %d, %d", len(axes), e)
	}
	if _, e := frame.Axes(example(), sky(), l); e != api.ErrLong {
		t.Errorf("Axes of 302 reports = %d", e)
	}
}
