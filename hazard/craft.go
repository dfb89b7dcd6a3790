package hazard

import (
	"hangfire/api"
	"hangfire/wind"
)

// CheckCraft returns the index of the first sight with an error (-1: the craft itself), and the error.
func CheckCraft(c api.HzCraft) (at int, e api.Errno) {
	switch {
	case !wind.Name(c.Name):
		return -1, api.ErrForm
	case !isIn(c.Speed, 0, api.MaxSpeed), !isIn(c.Climb, 0, api.MaxSpeed), !lies(api.Span{Lo: c.Low, Hi: c.High}, 0, api.MaxPlace):
		return -1, api.ErrRange
	case !isIn(len(c.Sights), 1, api.MaxHzSights):
		return -1, api.ErrLong
	}
	for i, s := range c.Sights {
		if i > 0 && s.Tick <= c.Sights[i-1].Tick {
			return i, api.ErrArg
		}
		if !isSight(s) {
			return i, api.ErrRange
		}
	}
	return 0, api.OK
}

func isSight(s api.HzSight) bool {
	return isTick(s.Tick) && isPlace(s.Place) && isIn(s.Height, 0, api.MaxPlace) && isIn(s.Error, 0, api.MaxPlace)
}

// room is where something can be at a tick.
type room struct{ x, y, height api.Span }

// common returns where something can be that is in both rooms.
func (r room) common(s room) room {
	return room{x: common(r.x, s.x), y: common(r.y, s.y), height: common(r.height, s.height)}
}

// hasPlace reports whether something can be in a room.
func (r room) hasPlace() bool { return isSpan(r.x) && isSpan(r.y) && isSpan(r.height) }

// around returns the numbers that differ from another one by at most so much.
func around(n, far int) api.Span { return api.Span{Lo: n - far, Hi: n + far} }

// seen returns where a craft can be at a tick by a sight alone.
func seen(c api.HzCraft, s api.HzSight, tick int) room {
	ticks := max(tick-s.Tick, s.Tick-tick)
	far := s.Error + c.Speed*ticks
	return room{x: around(s.Place.X, far), y: around(s.Place.Y, far), height: around(s.Height, s.Error+c.Climb*ticks)}
}

// where returns where a craft can be at a tick. It is no place if the craft contradicts itself.
func where(c api.HzCraft, tick int) room {
	r := room{x: common(), y: common(), height: api.Span{Lo: c.Low, Hi: c.High}}
	for _, s := range c.Sights {
		r = r.common(seen(c, s, tick))
	}
	return r
}

// Where returns where a craft can be at a tick.
func Where(c api.HzCraft, tick int) (a api.Area, height api.Span, e api.Errno) {
	if _, e := CheckCraft(c); e != api.OK {
		return api.Area{}, api.Span{}, e
	}
	if !isTick(tick) {
		return api.Area{}, api.Span{}, api.ErrRange
	}
	r := where(c, tick)
	if !r.hasPlace() {
		return api.Area{}, api.Span{}, api.ErrDown
	}
	return api.Area{X: r.x, Y: r.y}, r.height, api.OK
}
