package aim

import "hangfire/api"

// Check returns the part, the index in it and the error of a task.
func Check(t api.AmTask) (part, at int, e api.Errno) {
	if len(t.Response) < 1 || len(t.Response) > api.MaxAmBands || len(t.Settings) < 1 || len(t.Settings) > api.MaxAmSettings {
		return 1, 0, api.ErrLong
	}
	from := 0
	for i, b := range t.Response {
		if e := checkWeight(b, from); e != api.OK {
			return 2, i, e
		}
		from = b.To
	}
	for i, s := range t.Settings {
		if !isArea(s.Area) || s.Scale < 0 || s.Scale > api.MaxAmScale {
			return 3, i, api.ErrRange
		}
	}
	if !isPlace(t.Target) || !isArea(t.Allowed) || t.Gain < 0 || t.Gain > api.MaxAmGain || !isTurn(t.Turn) || !isTurn(t.Freeze) {
		return 4, 0, api.ErrRange
	}
	return 0, 0, api.OK
}

// checkWeight returns the error of a weight that has to begin at a height.
func checkWeight(b api.AmBand, from int) api.Errno {
	switch {
	case b.From != from:
		return api.ErrArg
	case b.To <= b.From, b.To > api.MaxWnHeight, !isWithin(b.K, api.MaxAmWeight):
		return api.ErrRange
	}
	return api.OK
}

// isWithin reports whether a span has a number, and none that is farther from 0 than stated.
func isWithin(s api.Span, far int) bool { return s.Lo <= s.Hi && s.Lo >= -far && s.Hi <= far }

func isArea(a api.Area) bool {
	return isWithin(a.X, api.MaxAmPlace) && isWithin(a.Y, api.MaxAmPlace)
}

func isPlace(p api.Place) bool {
	return isArea(api.Area{X: api.Span{Lo: p.X, Hi: p.X}, Y: api.Span{Lo: p.Y, Hi: p.Y}})
}

func isTurn(n int) bool { return n >= 0 && n <= api.MaxAmTurn }
