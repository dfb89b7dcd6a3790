package frame

import "hangfire/api"

// sum is the check sum of the bytes that have been looked at. Its type is what makes doubling it go modulo 65536.
type sum uint16

// Of check sums: what they are at first, from where on doubling one loses a bit, and what is combined with it then.
const (
	start sum = 65535
	high  sum = 32768
	mixed sum = 4129
)

// with returns the check sum of one byte more.
func (s sum) with(b byte) sum {
	s ^= sum(b) << 8
	for range 8 {
		loses := s >= high
		s <<= 1
		if loses {
			s ^= mixed
		}
	}
	return s
}

// Sum returns the check sum of bytes.
func Sum(b []byte) int {
	s := start
	for _, x := range b {
		s = sum.with(s, x)
	}
	return int(s)
}

// checkFrame returns the error of a format, of the number of a frame, and of values, of which there have to be so many.
func checkFrame(f api.FrFormat, number int, values []int, n int) api.Errno {
	if _, _, e := Check(f); e != api.OK {
		return e
	}
	switch {
	case !isNumber(number):
		return api.ErrRange
	case len(values) != n:
		return api.ErrArg
	case !every(values, isWord):
		return api.ErrRange
	}
	return api.OK
}

// Commute returns the words of a frame.
func Commute(f api.FrFormat, number int, values []int) ([]int, api.Errno) {
	if e := checkFrame(f, number, values, len(f.Channels)); e != api.OK {
		return nil, e
	}
	l := make([]int, f.Words)
	for i, c := range f.Channels {
		if isInFrame(c, number) {
			l[c.Word] = values[i]
		}
	}
	return l, api.OK
}

// Encode returns the bytes of a frame.
func Encode(f api.FrFormat, number int, words []int) ([]byte, api.Errno) {
	if e := checkFrame(f, number, words, f.Words); e != api.OK {
		return nil, e
	}
	b := append([]byte(f.Sync), byte(number%counts))
	for _, n := range words {
		b = appendWord(b, n)
	}
	return appendWord(b, Sum(b)), api.OK
}

// appendWord appends both bytes of a number, the higher one first.
func appendWord(b []byte, n int) []byte { return append(b, byte(n>>8), byte(n)) }
