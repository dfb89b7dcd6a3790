package flight_test

import (
	"math"
	"slices"
	"testing"

	"hangfire/api"
	"hangfire/flight"
)

// numbersOf returns the six numbers of a point.
func numbersOf(p *api.FlPoint) [6]*int {
	return [...]*int{&p.X, &p.Y, &p.Z, &p.VX, &p.VY, &p.VZ}
}

// P2.7: the chapter's examples, and single numbers that are not so.
func TestOwn(t *testing.T) {
	path := []api.FlPoint{{}, {X: 1, Z: 902, VX: 1, VZ: 902}, {X: 1, Z: 2706, VZ: 1804}, {X: 1, Z: 4412, VZ: 1706}, {X: 1, Z: 6020, VZ: 1608}}
	with := func(i int, p api.FlPoint) []api.FlPoint {
		l := slices.Clone(path)
		l[i] = p
		return l
	}
	for i, c := range []struct {
		path []api.FlPoint
		want int
	}{
		{path[:1], -1},
		{path[:3], -1},
		{path, -1},
		{[]api.FlPoint{{}, {X: 2, Z: 902, VX: 2, VZ: 902}}, 1},
		{[]api.FlPoint{{}, {X: -2, Z: 902, VX: -2, VZ: 902}}, 1},
		{[]api.FlPoint{{}, {X: -1, Z: 902, VX: -1, VZ: 902}}, -1},
		{[]api.FlPoint{{}, {Z: 903, VZ: 903}}, 1},
		{[]api.FlPoint{{}, {Z: 901, VZ: 901}}, 1},
		// The places follow from the speeds.
		{with(2, api.FlPoint{X: 2, Z: 2706, VZ: 1804}), 2},
		{with(2, api.FlPoint{X: 1, Z: 2705, VZ: 1804}), 2},
		{with(2, api.FlPoint{X: 1, Y: 1, Z: 2706, VZ: 1804}), 2},
		{with(2, api.FlPoint{X: 2, Z: 2706, VX: 1, VZ: 1804}), 3}, // X goes on by 1
		{with(4, api.FlPoint{X: 1, Z: 6021, VZ: 1609}), 4},
		{with(4, api.FlPoint{X: 2, Z: 6020, VX: 1, VZ: 1608}), 4}, // no thrust any more, and no tilt
		{with(4, api.FlPoint{X: 1, Y: -1, Z: 6020, VY: -1, VZ: 1608}), 4},
		// It begins at 0 throughout, and the first tick counts.
		{with(0, api.FlPoint{X: 1}), 0},
		{with(0, api.FlPoint{Y: 1}), 0},
		{with(0, api.FlPoint{Z: -1}), 0},
		{with(0, api.FlPoint{VX: 1}), 0},
		{with(0, api.FlPoint{VY: -1}), 0},
		{with(0, api.FlPoint{VZ: 1}), 0},
		{[]api.FlPoint{{X: 1}}, 0},
		{[]api.FlPoint{{}, {X: 5}, {X: 6}}, 1},
	} {
		if at, e := flight.Own(dart(), straight, calm(), c.path); at != c.want || e != api.OK {
			t.Errorf("%d: Own = %d, %d", i, at, e)
		}
	}
}

// P2.7: the force is that on the point before, in the phase at its tick.
func TestOwnByThePointBefore(t *testing.T) {
	v := dragged()
	v.Phases = append(v.Phases, api.FlPhase{Ticks: 1, Thrust: only(2000), Mass: only(10), Drag: only(10)})
	// Below 1000 mm the wind is fast, above there is none.
	l := []api.WnBand{band(0, 1000, only(20000), only(0))}
	path := []api.FlPoint{{}}
	for tick := range 6 {
		p := path[tick]
		s := api.FlState{X: only(p.X), Y: only(p.Y), Z: only(p.Z), VX: only(p.VX), VY: only(p.VY), VZ: only(p.VZ)}
		f := forceOn(v, straight, l, phaseAt(v, tick), s)
		p.VX, p.VY, p.VZ = p.VX+f.X.Hi, p.VY+f.Y.Lo, p.VZ+f.Z.Lo
		p.X, p.Y, p.Z = p.X+p.VX, p.Y+p.VY, p.Z+p.VZ
		path = append(path, p)
	}
	if path[1].VX != 401 || path[3].VZ <= path[2].VZ+1000 || path[4].VZ >= path[3].VZ {
		t.Errorf("the path is %v", path)
	}
	if at, e := flight.Own(v, straight, l, path); at != -1 || e != api.OK {
		t.Errorf("Own of %v = %d, %d", path, at, e)
	}
	for i := range path[1:] {
		wrong := slices.Clone(path[:i+2])
		wrong[i+1].VZ--
		wrong[i+1].Z--
		if at, e := flight.Own(v, straight, l, wrong); at != i+1 || e != api.OK {
			t.Errorf("Own of %v = %d, %d", wrong, at, e)
		}
	}
}

// P2.7
func TestOwnErrors(t *testing.T) {
	v := dart()
	for n, want := range map[int]api.Errno{0: api.ErrLong, 1: api.OK, 3001: api.OK, 3002: api.ErrLong} {
		if _, e := flight.Own(v, straight, calm(), make([]api.FlPoint, n)); e != want {
			t.Errorf("Own of %d points: %d", n, e)
		}
	}
	for i := range 6 {
		most := api.MaxPlace
		if i > 2 {
			most = api.MaxSpeed
		}
		for n, want := range map[int]api.Errno{most: api.OK, -most: api.OK, most + 1: api.ErrRange, -most - 1: api.ErrRange, math.MaxInt: api.ErrRange, math.MinInt: api.ErrRange} {
			for at := range 3 {
				path := make([]api.FlPoint, 3)
				*numbersOf(&path[at])[i] = n
				_, e := flight.Own(v, straight, calm(), path)
				_, _, f := flight.Down(path, 0)
				if e != want || f != want {
					t.Errorf("a number %d at %d: Own: %d; Down: %d", n, at, e, f)
				}
				// Too many points come first.
				path = append(path, make([]api.FlPoint, 3000)...)
				_, e = flight.Own(v, straight, calm(), path)
				_, _, f = flight.Down(path, -1)
				if e != api.ErrLong || f != api.ErrLong {
					t.Errorf("Own: %d; Down: %d", e, f)
				}
			}
		}
	}
}
