package track_test

import (
	"math"
	"slices"
	"testing"

	"hangfire/api"
	"hangfire/track"
)

// P5.2, with the examples of the chapter.
func TestWidth(t *testing.T) {
	for _, c := range []struct {
		plot, want int
		e          api.Errno
	}{
		{0, 3500, api.OK}, {1, 4000, api.OK}, {2, 800, api.OK}, {3, 800, api.OK},
		{-1, 0, api.ErrNone}, {4, 0, api.ErrNone}, {math.MinInt, 0, api.ErrNone}, {math.MaxInt, 0, api.ErrNone},
	} {
		if n, e := track.Width(example(), c.plot); n != c.want || e != c.e {
			t.Errorf("Width of %d = %d, %d", c.plot, n, e)
		}
	}
	if n, e := track.Width(slow(), 0); n != 0 || e != api.ErrNone {
		t.Errorf("Width = %d, %d", n, e)
	}
}

// P5.2: kilometres that have begun, by the greatest of the differences.
func TestWidthByDistance(t *testing.T) {
	const km = 1000000
	for _, c := range []struct {
		x, y, px, py, pz, want int
	}{
		{0, 0, 0, 0, 0, 7}, {0, 0, 1, 0, 0, 107}, {0, 0, 0, -1, 0, 107}, {0, 0, 0, 0, -1, 107},
		{0, 0, km, 0, 0, 107}, {0, 0, km + 1, 0, 0, 207}, {0, 0, -km, 0, 0, 107}, {0, 0, -km - 1, 0, 0, 207},
		{0, 0, 0, km + 1, 0, 207}, {0, 0, 0, -km - 1, 0, 207}, {0, 0, 0, 0, 2 * km, 207}, {0, 0, 0, 0, -2*km - 1, 307},
		{0, 0, 1, 3 * km, km, 307}, {0, 0, 3*km + 1, km, km, 407}, {0, 0, km, km, 5 * km, 507},
		{5, 5, 5, 5, 0, 7}, {km, 0, 0, 0, 0, 107}, {km, 0, -1, 0, 0, 207}, {0, -km, 0, 1, 0, 207}, {0, km, 0, -km, 0, 207},
		{9 * km, 9 * km, 9 * km, 9 * km, 0, 7},
		{-away, 0, far, 0, 0, 210007}, {0, away, 0, -far, 0, 210007}, {0, 0, 0, 0, far, 200007},
	} {
		x := slow()
		x.Trackers = []api.TkTracker{{Name: "a", X: c.x, Y: c.y, Error: 7, Grow: 100}}
		x.Plots = []api.TkPlot{{Tick: 100, X: c.px, Y: c.py, Z: c.pz}}
		if n, e := track.Width(x, 0); n != c.want || e != api.OK {
			t.Errorf("Width of %v = %d, %d", c, n, e)
		}
	}
}

// P5.2, with the examples of the chapter.
func TestKnown(t *testing.T) {
	for _, c := range []struct {
		now  int
		want []int
		e    api.Errno
	}{
		{120, []int{1}, api.OK}, {139, []int{0, 1}, api.OK}, {150, []int{0, 1, 2, 3}, api.OK},
		{0, nil, api.OK}, {119, nil, api.OK}, {124, []int{1}, api.OK}, {125, []int{0, 1}, api.OK}, {140, []int{0, 1, 2}, api.OK}, {149, []int{0, 1, 2}, api.OK},
		{100000, []int{0, 1, 2, 3}, api.OK}, {100001, nil, api.ErrRange}, {-1, nil, api.ErrRange}, {math.MinInt, nil, api.ErrRange}, {math.MaxInt, nil, api.ErrRange},
	} {
		if l, e := track.Known(example(), c.now); !slices.Equal(l, c.want) || e != c.e {
			t.Errorf("Known at %d = %v, %d", c.now, l, e)
		}
	}
	// What comes too late for the last tick is never known.
	x := example()
	x.Plots[2].Tick, x.Plots[3].Tick = 99980, 99981
	if l, e := track.Known(x, 100000); !slices.Equal(l, []int{0, 1, 2}) || e != api.OK {
		t.Errorf("Known = %v, %d", l, e)
	}
}

// P5.2, with the examples of the chapter.
func TestReach(t *testing.T) {
	for _, c := range []struct {
		n, want int
		e       api.Errno
	}{
		{0, 0, api.OK}, {1, 50, api.OK}, {20, 10500, api.OK}, {21, 11500, api.OK}, {30, 20500, api.OK}, {100000, 99990500, api.OK},
		{-1, 0, api.ErrRange}, {100001, 0, api.ErrRange}, {math.MinInt, 0, api.ErrRange}, {math.MaxInt, 0, api.ErrRange},
	} {
		if n, e := track.Reach(example(), c.n); n != c.want || e != c.e {
			t.Errorf("Reach of %d = %d, %d", c.n, n, e)
		}
	}
}

// P5.2: the sum, tick by tick.
func TestReachIsTheSum(t *testing.T) {
	for _, c := range [][2]int{{1, 1}, {1, 5}, {5, 1}, {7, 3}, {9, 3}, {8, 3}, {10, 9}, {fast, 1}, {fast, 7}, {fast, fast}, {fast - 1, fast}, {1, fast}} {
		x := api.TkTask{From: 90000, Speed: c[0], Accel: c[1]}
		sum := 0
		for n := range 100001 {
			if n > 0 {
				sum += min(c[1]*n, c[0])
			}
			if n > 30 && n%9973 != 0 && n != 100000 {
				continue
			}
			if got, e := track.Reach(x, n); got != sum || e != api.OK {
				t.Fatalf("Reach of %d by %v = %d, %d, and not %d", n, c, got, e, sum)
			}
		}
	}
}
