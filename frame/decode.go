package frame

import (
	"iter"

	"hangfire/api"
)

// size returns how many bytes a frame has: Sync, the counter, all words, and the check sum.
func size(f api.FrFormat) int { return len(f.Sync) + 1 + 2*f.Words + 2 }

// wordAt returns the number that is in two bytes from an index on.
func wordAt(b []byte, i int) int { return int(b[i])<<8 | int(b[i+1]) }

// isFrame reports whether as many bytes as a frame has are one.
func isFrame(f api.FrFormat, b []byte) bool {
	behind := len(b) - 2
	return string(b[:len(f.Sync)]) == f.Sync && wordAt(b, behind) == Sum(b[:behind])
}

// frames yields what is decoded of some bytes, in order.
func frames(f api.FrFormat, b []byte) iter.Seq[api.FrFrame] {
	return func(yield func(api.FrFrame) bool) {
		for at := 0; at+size(f) <= len(b); {
			frame := b[at : at+size(f)]
			if !isFrame(f, frame) {
				at++
				continue
			}
			if !yield(taken(f, frame, at)) {
				return
			}
			at += size(f)
		}
	}
}

// taken returns what the bytes of a frame say, which is at an index.
func taken(f api.FrFormat, b []byte, at int) api.FrFrame {
	b = b[len(f.Sync):]
	x := api.FrFrame{At: at, Count: int(b[0])}
	for i := range f.Words {
		x.Words = append(x.Words, wordAt(b, 1+2*i))
	}
	return x
}

// Decode returns the frames of bytes, and the bytes that were skipped.
func Decode(f api.FrFormat, b []byte) ([]api.FrFrame, []api.FrGap, api.Errno) {
	if _, _, e := Check(f); e != api.OK {
		return nil, nil, e
	}
	if len(b) > api.MaxFrBytes {
		return nil, nil, api.ErrLong
	}
	var l []api.FrFrame
	var gaps []api.FrGap
	place := 0
	skip := func(until int) {
		if place < until {
			gaps = append(gaps, api.FrGap{From: place, Until: until})
		}
	}
	for x := range frames(f, b) {
		skip(x.At)
		l = append(l, x)
		place = x.At + size(f)
	}
	skip(len(b))
	return l, gaps, api.OK
}
