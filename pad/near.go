package pad

import "hangfire/api"

// isNear reports whether a zone is near a squib. No square is too great for an int: that of 2 x 10^7, twice, is 8 x 10^14.
func isNear(p api.PdPad, zone, squib int) bool {
	area, q := p.Zones[zone].Area, p.Squibs[squib]
	x, y := away(area.X, q.At.X), away(area.Y, q.At.Y)
	return x*x+y*y < q.Clear*q.Clear
}

// away returns how far a number is from the nearest one of a span.
func away(s api.Span, n int) int { return max(s.Lo-n, n-s.Hi, 0) }

// Near reports whether a zone is near a squib.
func Near(p api.PdPad, zone, squib int) (bool, api.Errno) {
	if _, _, e := Check(p); e != api.OK {
		return false, e
	}
	if !has(p.Zones, zone) || !has(p.Squibs, squib) {
		return false, api.ErrNone
	}
	return isNear(p, zone, squib), api.OK
}
