package flight_test

import (
	"math"
	"math/rand"
	"testing"

	"hangfire/api"
	"hangfire/flight"
)

// P2.2
func TestWinds(t *testing.T) {
	two := []api.WnBand{band(0, 100, span(5, 7), span(-3, -2)), band(100, 300, span(6, 9), span(-8, -5))}
	for i, c := range []struct {
		l    []api.WnBand
		z    api.Span
		x, y api.Span
		e    api.Errno
	}{
		// The chapter's examples.
		{breeze(), span(0, 99999), only(300), only(0), api.OK},
		{breeze(), span(0, 100000), span(0, 300), only(0), api.OK},
		{two, only(0), span(5, 7), span(-3, -2), api.OK},
		{two, only(99), span(5, 7), span(-3, -2), api.OK},
		{two, span(99, 100), span(5, 9), span(-8, -2), api.OK},
		{two, only(100), span(6, 9), span(-8, -5), api.OK},
		{two, only(299), span(6, 9), span(-8, -5), api.OK},
		{two, span(299, 300), span(0, 9), span(-8, 0), api.OK},
		// Above the last band there is no wind.
		{two, only(300), only(0), only(0), api.OK},
		{two, span(301, api.MaxPlace), only(0), only(0), api.OK},
		{two, span(0, 300), span(0, 9), span(-8, 0), api.OK},
		// Below the first one there is its wind.
		{two, only(-1), span(5, 7), span(-3, -2), api.OK},
		{two, span(-api.MaxPlace, -5), span(5, 7), span(-3, -2), api.OK},
		{two, span(-5, 99), span(5, 7), span(-3, -2), api.OK},
		{two, span(-5, 100), span(5, 9), span(-8, -2), api.OK},
		{two, span(-api.MaxPlace, api.MaxPlace), span(0, 9), span(-8, 0), api.OK},
		// Not a span, or not of heights.
		{two, span(1, 0), span(0, 0), span(0, 0), api.ErrRange},
		{two, span(-api.MaxPlace-1, 0), span(0, 0), span(0, 0), api.ErrRange},
		{two, span(0, api.MaxPlace+1), span(0, 0), span(0, 0), api.ErrRange},
		{two, span(math.MinInt, math.MaxInt), span(0, 0), span(0, 0), api.ErrRange},
		{two, span(math.MaxInt, math.MinInt), span(0, 0), span(0, 0), api.ErrRange},
		{nil, only(0), span(0, 0), span(0, 0), api.ErrLong},
		{two[1:], only(0), span(0, 0), span(0, 0), api.ErrArg},
	} {
		if a, e := flight.Winds(c.l, c.z); a != (api.Area{X: c.x, Y: c.y}) || e != c.e {
			t.Errorf("%d: Winds = %v, %d", i, a, e)
		}
	}
}

// P2.2
func TestAir(t *testing.T) {
	v := dart()
	v.Air = []api.FlAir{{From: 0, Dens: 900}, {From: 100, Dens: 950}, {From: 200, Dens: 300}}
	for i, c := range []struct {
		v    api.FlVehicle
		z    api.Span
		want api.Span
		e    api.Errno
	}{
		{v, only(0), only(900), api.OK},
		{v, only(-1), only(900), api.OK},
		{v, span(-api.MaxPlace, 99), only(900), api.OK},
		{v, only(99), only(900), api.OK},
		{v, only(100), only(950), api.OK},
		{v, span(99, 100), span(900, 950), api.OK},
		{v, span(100, 199), only(950), api.OK},
		{v, span(100, 200), span(300, 950), api.OK},
		{v, span(50, 250), span(300, 950), api.OK},
		{v, only(200), only(300), api.OK},
		{v, span(200, api.MaxPlace), only(300), api.OK},
		{dart(), only(0), only(0), api.OK},
		{dart(), span(-api.MaxPlace, api.MaxPlace), only(0), api.OK},
		{dragged(), span(-api.MaxPlace, api.MaxPlace), only(1000), api.OK},
		{v, span(1, 0), only(0), api.ErrRange},
		{v, span(-api.MaxPlace-1, 0), only(0), api.ErrRange},
		{v, span(0, api.MaxPlace+1), only(0), api.ErrRange},
		{v, span(math.MinInt, math.MaxInt), only(0), api.ErrRange},
	} {
		if s, e := flight.Air(c.v, c.z); s != c.want || e != c.e {
			t.Errorf("%d: Air = %v, %d", i, s, e)
		}
	}
}

// P2.2, height by height.
func TestEachHeight(t *testing.T) {
	r := rand.New(rand.NewSource(22))
	for range 500 {
		var l []api.WnBand
		v := dart()
		from, low := 0, 0
		for range 1 + r.Intn(5) {
			to := from + 1 + r.Intn(9)
			l = append(l, band(from, to, about(r, r.Intn(100)-50, 20), about(r, r.Intn(100)-50, 20)))
			v.Air = append(v.Air, api.FlAir{From: low, Dens: r.Intn(1001)})
			from, low = to, low+1+r.Intn(9)
		}
		z := about(r, r.Intn(40)-5, 20)
		want := windAt(l, z.Lo)
		air := only(airAt(v, z.Lo))
		for h := z.Lo; h <= z.Hi; h++ {
			w := windAt(l, h)
			want = api.Area{X: hull(want.X, w.X), Y: hull(want.Y, w.Y)}
			air = hull(air, only(airAt(v, h)))
		}
		if a, e := flight.Winds(l, z); a != want || e != api.OK {
			t.Fatalf("Winds = %v, %d of %v over %v", a, e, l, z)
		}
		if s, e := flight.Air(v, z); s != air || e != api.OK {
			t.Fatalf("Air = %v, %d of %v over %v", s, e, v.Air, z)
		}
	}
}
