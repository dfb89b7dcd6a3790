package track

import "hangfire/api"

// reach returns how far a part of a place can be from the pad after n ticks: the flight gets faster by Accel in each tick, until it would be faster than Speed.
func reach(t api.TkTask, n int) int {
	faster := min(n, t.Speed/t.Accel)
	return t.Accel*faster*(faster+1)/2 + t.Speed*(n-faster)
}

// Reach returns how far a part of a place can be from the pad after some ticks.
func Reach(t api.TkTask, n int) (int, api.Errno) {
	if _, _, e := Check(t); e != api.OK {
		return 0, e
	}
	if !isTick(n) {
		return 0, api.ErrRange
	}
	return reach(t, n), api.OK
}

// goOn lets a part of a place go on with its velocity for n ticks, and reports whether there are numbers left for both in each of them.
func goOn(t api.TkTask, place, velocity *span, n int) bool {
	if !velocity.narrow(around(0, t.Speed)) {
		return false
	}
	for range n {
		place.move(*velocity)
		if !place.narrow(around(0, api.MaxPlace)) {
			return false
		}
		velocity.widen(t.Accel)
		velocity.narrow(around(0, t.Speed))
	}
	return true
}

// Ahead returns the box some ticks after another one.
func Ahead(t api.TkTask, b api.TkBox, n int) (api.TkBox, api.Errno) {
	if _, _, e := Check(t); e != api.OK {
		return api.TkBox{}, e
	}
	if e := CheckBox(b); e != api.OK {
		return api.TkBox{}, e
	}
	if !isIn(n, 0, api.MaxTkAhead) || !isTick(b.At+n) {
		return api.TkBox{}, api.ErrRange
	}
	b.At += n
	for part := range parts {
		a := axisOf(part)
		place, velocity := span{*a.place(&b)}, span{*a.velocity(&b)}
		if !goOn(t, &place, &velocity, n) {
			return api.TkBox{}, api.ErrDown
		}
		*a.place(&b), *a.velocity(&b) = place.Span, velocity.Span
	}
	return b, api.OK
}
