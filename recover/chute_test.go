package recover_test

import (
	"math"
	"testing"

	"hangfire/api"
	"hangfire/recover"
)

// P10.1
func TestCheckChute(t *testing.T) {
	for i, c := range []struct {
		height int
		fall   api.Span
		e      api.Errno
	}{
		{300000, span(50, 60), api.OK},
		{1, span(1, 1), api.OK},
		{100000000, span(10000, 10000), api.OK},
		{5, span(1, 10000), api.OK},
		{0, span(50, 60), api.ErrRange},
		{-1, span(50, 60), api.ErrRange},
		{100000001, span(50, 60), api.ErrRange},
		{math.MinInt, span(50, 60), api.ErrRange},
		{math.MaxInt, span(50, 60), api.ErrRange},
		{300000, span(0, 60), api.ErrRange},
		{300000, span(-1, 60), api.ErrRange},
		{300000, span(math.MinInt, 60), api.ErrRange},
		{300000, span(50, 10001), api.ErrRange},
		{300000, span(50, math.MaxInt), api.ErrRange},
		{300000, span(51, 50), api.ErrRange},
		{300000, span(10000, 1), api.ErrRange},
		{300000, span(10001, 10001), api.ErrRange},
		{300000, span(0, 0), api.ErrRange},
	} {
		x := api.RcChute{Height: c.height, Fall: c.fall}
		if e := recover.CheckChute(x); e != c.e {
			t.Errorf("%d: CheckChute = %d, and not %d", i, e, c.e)
		}
		if c.e == api.OK {
			continue
		}
		// The error comes first.
		if y, e := recover.Land(api.FlImpact{At: only(-1)}, x, nil); y != (api.FlImpact{}) || e != c.e {
			t.Errorf("%d: Land = %v, %d, and not %d", i, y, e, c.e)
		}
	}
}

// landCase is a change of what the chapter's example lands, and what Land returns then.
type landCase struct {
	change func(x *api.FlImpact, c *api.RcChute, l *[]api.WnBand)
	want   api.FlImpact
	e      api.Errno
}

func runLandings(t *testing.T, l []landCase) {
	t.Helper()
	for i, c := range l {
		x, p, b := impact(), chute(), bands()
		c.change(&x, &p, &b)
		if y, e := recover.Land(x, p, b); y != c.want || e != c.e {
			t.Errorf("%d: Land of %v with %v by %v = %v, %d, and not %v, %d", i, x, p, b, y, e, c.want, c.e)
		}
	}
}

// P10.1, with the example of the chapter.
func TestLand(t *testing.T) {
	wind := func(x, y api.Span) []api.WnBand { return []api.WnBand{{To: 1000, X: x, Y: y}} }
	from := func(height int, fall api.Span, b []api.WnBand) func(x *api.FlImpact, c *api.RcChute, l *[]api.WnBand) {
		return func(x *api.FlImpact, c *api.RcChute, l *[]api.WnBand) {
			*x, *c, *l = api.FlImpact{}, api.RcChute{Height: height, Fall: fall}, b
		}
	}
	to := func(a api.Area, at api.Span) api.FlImpact { return api.FlImpact{Area: a, At: at} }
	runLandings(t, []landCase{
		{func(*api.FlImpact, *api.RcChute, *[]api.WnBand) {}, to(area(3066666, 4601000, -820000, 801000), span(5500, 6510)), api.OK},
		// The piece stays, whatever it is.
		{func(x *api.FlImpact, _ *api.RcChute, _ *[]api.WnBand) { x.Piece = 3 }, api.FlImpact{Piece: 3, Area: area(3066666, 4601000, -820000, 801000), At: span(5500, 6510)}, api.OK},
		{func(x *api.FlImpact, _ *api.RcChute, _ *[]api.WnBand) { x.Piece = math.MinInt }, api.FlImpact{Piece: math.MinInt, Area: area(3066666, 4601000, -820000, 801000), At: span(5500, 6510)}, api.OK},
		// Below the end of the first band the second one does not count, and the third one never does.
		{func(_ *api.FlImpact, c *api.RcChute, _ *[]api.WnBand) { c.Height = 200000 }, to(area(2000000, 3121000, -600000, 321000), span(3833, 4510)), api.OK},
		{func(_ *api.FlImpact, c *api.RcChute, _ *[]api.WnBand) { c.Height = 200001 }, to(area(2000010, 3121015, -600003, 321005), span(3833, 4511)), api.OK},
		{func(_ *api.FlImpact, c *api.RcChute, _ *[]api.WnBand) { c.Height = 199999 }, to(area(1999990, 3120985, -599997, 320999), span(3833, 4510)), api.OK},
		// All is rounded outward, below 0, too; of both ends of Fall that counts by which it is farther.
		{from(10, span(3, 4), wind(span(1, 1), span(-1, -1))), to(area(2, 4, -4, -2), span(2, 4)), api.OK},
		{from(10, span(3, 4), wind(span(-1, 1), span(0, 0))), to(area(-4, 4, 0, 0), span(2, 4)), api.OK},
		{from(12, span(3, 4), wind(span(1, 1), span(-1, -1))), to(area(3, 4, -4, -3), span(3, 4)), api.OK},
		{from(10, span(4, 4), wind(span(1, 2), span(-2, -1))), to(area(2, 5, -5, -2), span(2, 3)), api.OK},
		{from(1, span(10000, 10000), wind(span(1, 1), span(-1, -1))), to(area(0, 1, -1, 0), span(0, 1)), api.OK},
		{from(1, span(1, 10000), wind(span(7, 20000), span(-20000, -7))), to(area(0, 20000, -20000, 0), span(0, 1)), api.OK},
		// As far, and as long, as possible.
		{func(x *api.FlImpact, c *api.RcChute, l *[]api.WnBand) {
			*x = api.FlImpact{Area: area(-2000000000, 2000000000, 2000000000, 2000000000), At: span(0, 100000)}
			*c, *l = api.RcChute{Height: 100000000, Fall: only(1)}, []api.WnBand{{To: 100000000, X: span(-20000, 20000), Y: only(20000)}}
		}, to(area(-2002000000000, 2002000000000, 2002000000000, 2002000000000), span(100000000, 100100000)), api.OK},
	})
}

// P10.1: what is not valid, and which error comes first.
func TestLandErrors(t *testing.T) {
	fails := func(e api.Errno, change func(x *api.FlImpact, c *api.RcChute, l *[]api.WnBand)) landCase {
		return landCase{change, api.FlImpact{}, e}
	}
	high := func(c *api.RcChute) { c.Height = 1000001 }
	var l []landCase
	for _, of := range []func(x *api.FlImpact) *api.Span{
		func(x *api.FlImpact) *api.Span { return &x.Area.X },
		func(x *api.FlImpact) *api.Span { return &x.Area.Y },
		func(x *api.FlImpact) *api.Span { return &x.At },
	} {
		for _, s := range []api.Span{span(1, 0), span(math.MinInt, 0), span(0, math.MaxInt), span(-2000000001, 0), span(0, 2000000001), span(510, 509), only(-2000000001), only(2000000001)} {
			l = append(l, fails(api.ErrRange, func(x *api.FlImpact, c *api.RcChute, _ *[]api.WnBand) {
				*of(x) = s
				high(c) // comes behind it
			}))
		}
	}
	for _, s := range []api.Span{span(-1, 5), span(0, 100001), only(100001), only(-1)} {
		l = append(l, fails(api.ErrRange, func(x *api.FlImpact, _ *api.RcChute, _ *[]api.WnBand) { x.At = s }))
	}
	runLandings(t, append(l,
		fails(api.ErrNone, func(_ *api.FlImpact, c *api.RcChute, _ *[]api.WnBand) { high(c) }),
		fails(api.ErrNone, func(_ *api.FlImpact, c *api.RcChute, l *[]api.WnBand) { *l = calm(c.Height - 1) }),
		landCase{func(_ *api.FlImpact, c *api.RcChute, l *[]api.WnBand) { *l = calm(c.Height) }, api.FlImpact{Area: area(0, 1000, 0, 1000), At: span(5500, 6510)}, api.OK},
		fails(api.ErrLong, func(_ *api.FlImpact, _ *api.RcChute, l *[]api.WnBand) { *l = nil }),
		fails(api.ErrLong, func(_ *api.FlImpact, _ *api.RcChute, l *[]api.WnBand) { *l = make([]api.WnBand, 21) }),
		fails(api.ErrArg, func(_ *api.FlImpact, _ *api.RcChute, l *[]api.WnBand) { (*l)[1].From++ }),
		fails(api.ErrRange, func(_ *api.FlImpact, _ *api.RcChute, l *[]api.WnBand) { (*l)[1].Y.Hi = 20001 }),
		// The bands come before the impact.
		fails(api.ErrArg, func(x *api.FlImpact, c *api.RcChute, l *[]api.WnBand) {
			(*l)[0].From, x.At.Lo, c.Height = 1, -1, 2000000
		}),
		fails(api.ErrLong, func(x *api.FlImpact, _ *api.RcChute, l *[]api.WnBand) { *l, x.Area.X = nil, span(1, 0) }),
		landCase{func(x *api.FlImpact, c *api.RcChute, l *[]api.WnBand) {
			*x, *l = api.FlImpact{Area: area(-2000000000, 2000000000, -2000000000, 2000000000), At: span(0, 100000)}, calm(300000)
		}, api.FlImpact{Area: area(-2000000000, 2000000000, -2000000000, 2000000000), At: span(5000, 106000)}, api.OK},
	))
}
