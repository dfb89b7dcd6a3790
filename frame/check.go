package frame

import (
	"slices"

	"hangfire/api"
	"hangfire/wind"
)

// Check returns the part, the index in it and the error of a format.
func Check(f api.FrFormat) (part, at int, e api.Errno) {
	switch {
	case !isIn(len(f.Sync), 1, api.MaxFrSync), len(f.Channels) > api.MaxFrChannels:
		return 1, 0, api.ErrLong
	case !isIn(f.Words, 1, api.MaxFrWords), !slices.Contains([]int{1, 2, 4, 8, api.MaxFrDepth}, f.Depth):
		return 1, 0, api.ErrRange
	}
	for i, c := range f.Channels {
		if e := checkChannel(f, c, f.Channels[:i]); e != api.OK {
			return 2, i, e
		}
	}
	return 0, 0, api.OK
}

// checkChannel returns the error of a channel behind other ones that have none.
func checkChannel(f api.FrFormat, c api.FrChannel, before []api.FrChannel) api.Errno {
	switch {
	case !wind.Name(c.Name):
		return api.ErrForm
	case slices.ContainsFunc(before, func(b api.FrChannel) bool { return b.Name == c.Name }):
		return api.ErrTwice
	case !isIn(c.Word, 0, f.Words-1), !divides(c.Every, f.Depth), !isIn(c.Phase, 0, c.Every-1):
		return api.ErrRange
	case slices.ContainsFunc(before, func(b api.FrChannel) bool { return collide(b, c) }):
		return api.ErrArg
	}
	return api.OK
}

// divides reports whether a number is from 1 on, and a divisor of another one.
func divides(n, of int) bool { return n >= 1 && of%n == 0 }

// collide reports whether channels are in the same frame at the same word. Each Every is a power of 2, so the less one divides the other one, and only what is left by it decides.
func collide(a, b api.FrChannel) bool {
	often := min(a.Every, b.Every)
	return a.Word == b.Word && a.Phase%often == b.Phase%often
}

// isInFrame reports whether a channel is in the frame with a number.
func isInFrame(c api.FrChannel, number int) bool { return number%c.Every == c.Phase }
