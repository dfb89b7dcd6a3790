package frame_test

import (
	"bytes"
	"math"
	"slices"
	"testing"

	"hangfire/api"
	"hangfire/frame"
)

// P9.2
func TestSum(t *testing.T) {
	for s, want := range map[string]int{"": 65535, "A": 47381, "123456789": 10673, "A\x00\x00\x00": 40168} {
		if n := frame.Sum([]byte(s)); n != want {
			t.Errorf("Sum of %q = %d", s, n)
		}
	}
	if n := frame.Sum(nil); n != 65535 {
		t.Errorf("Sum of nil = %d", n)
	}
	// What is longer than a tape has one, too.
	long := bytes.Repeat([]byte("A1"), 10000)
	if n := frame.Sum(long); n != slowSum(long) {
		t.Errorf("Sum of %d bytes = %d", len(long), n)
	}
}

// P9.3: the examples, and other frames.
func TestCommute(t *testing.T) {
	for number, want := range map[int]int{0: 7, 1: 258, 2: 7, 255: 258, 999999: 258, 1000000: 7} {
		if l, e := frame.Commute(example(), number, []int{7, 258}); !slices.Equal(l, []int{want}) || e != api.OK {
			t.Errorf("Commute for %d = %v, %d", number, l, e)
		}
	}
	all := []int{1, 2, 3, 4, 65535}
	for number, want := range [][]int{{1, 3, 0, 0}, {1, 2, 0, 0}, {1, 4, 0, 0}, {1, 2, 0, 0}, {1, 3, 0, 0}, {1, 2, 65535, 0}, {1, 4, 0, 0}, {1, 2, 0, 0}, {1, 3, 0, 0}} {
		if l, e := frame.Commute(wide(), number, all); !slices.Equal(l, want) || e != api.OK {
			t.Errorf("Commute for %d = %v, %d", number, l, e)
		}
	}
	none := api.FrFormat{Sync: "A", Words: 2, Depth: 1}
	for _, values := range [][]int{nil, {}} {
		if l, e := frame.Commute(none, 5, values); !slices.Equal(l, []int{0, 0}) || e != api.OK {
			t.Errorf("Commute without channels = %v, %d", l, e)
		}
	}
}

// P9.3: the examples, and other frames.
func TestEncode(t *testing.T) {
	for _, x := range []struct {
		number, word int
		want         []byte
	}{
		{0, 0, frame0()},
		{1, 258, frame1()},
		{257, 0, frame257()},
		{256, 0, frame0()},
		{999937, 258, frame1()}, // 256 times 3906, and 1
		{1000000, 0, slowEncode(example(), 64, []int{0})},
		{0, 65535, slowEncode(example(), 0, []int{65535})},
	} {
		if l := encode(t, example(), x.number, x.word); !slices.Equal(l, x.want) {
			t.Errorf("Encode of %d and %d = %v", x.number, x.word, l)
		}
	}
	if l := encode(t, wide(), 511, 1, 256, 65535, 4660); !slices.Equal(l[:11], []byte{0xeb, 0x90, 255, 0, 1, 1, 0, 255, 255, 0x12, 0x34}) || len(l) != 13 {
		t.Errorf("Encode = %v", l)
	}
	// All bytes of a string, not its letters.
	f := changed(func(f *api.FrFormat) { f.Sync = "\u00e9" })
	if l := encode(t, f, 3, 4); !slices.Equal(l[:5], []byte{0xc3, 0xa9, 3, 0, 4}) || len(l) != 7 {
		t.Errorf("Encode = %v", l)
	}
}

// P9.3: errors, and their order.
func TestEncodeErrors(t *testing.T) {
	f := wide() // with 5 channels, and 4 words
	for _, x := range []struct {
		number, first, more int
		e                   api.Errno
	}{
		{-1, 0, 0, api.ErrRange},
		{1000001, 0, 0, api.ErrRange},
		{math.MinInt, 0, 0, api.ErrRange},
		{math.MaxInt, 0, 0, api.ErrRange},
		{-1, -1, 1, api.ErrRange},
		{0, 0, -1, api.ErrArg},
		{0, 0, 1, api.ErrArg},
		{1000000, 65536, 1, api.ErrArg},
		{1000000, 65536, -1, api.ErrArg},
		{0, 65536, 0, api.ErrRange},
		{0, -1, 0, api.ErrRange},
		{0, math.MinInt, 0, api.ErrRange},
		{0, math.MaxInt, 0, api.ErrRange},
		{0, 65535, 0, api.OK},
		{1000000, 0, 0, api.OK},
	} {
		// The bad one is the last one, which for the channels is in no frame but that with the number 5.
		values, words := make([]int, 5+x.more), make([]int, 4+x.more)
		values[len(values)-1], words[len(words)-1] = x.first, x.first
		if l, e := frame.Commute(f, x.number, values); e != x.e || e != api.OK && l != nil {
			t.Errorf("Commute of %v for %d = %v, %d", values, x.number, l, e)
		}
		if l, e := frame.Encode(f, x.number, words); e != x.e || e != api.OK && l != nil {
			t.Errorf("Encode of %d and %v = %v, %d", x.number, words, l, e)
		}
	}
	if _, e := frame.Encode(f, 0, nil); e != api.ErrArg {
		t.Errorf("Encode of no words = %d", e)
	}
	if _, e := frame.Commute(f, 0, nil); e != api.ErrArg {
		t.Errorf("Commute of no values = %d", e)
	}
}

// found returns a frame that was decoded.
func found(at, count int, words ...int) api.FrFrame {
	return api.FrFrame{At: at, Count: count, Words: words}
}

func decodes(t *testing.T, f api.FrFormat, l []byte, frames []api.FrFrame, gaps []api.FrGap) {
	t.Helper()
	x, y, e := frame.Decode(f, l)
	if !same(x, frames) || !same(y, gaps) || e != api.OK {
		t.Errorf("Decode of %v = %v, %v, %d", l, x, y, e)
	}
}

// P9.4: the example, and where frames can be.
func TestDecode(t *testing.T) {
	f := example()
	decodes(t, f, nil, nil, nil)
	decodes(t, f, []byte{}, nil, nil)
	decodes(t, f, []byte{65}, nil, []api.FrGap{{From: 0, Until: 1}})
	decodes(t, f, slices.Concat(frame0(), []byte{7}, frame1()), []api.FrFrame{found(0, 0, 0), found(7, 1, 258)}, []api.FrGap{{From: 6, Until: 7}})
	decodes(t, f, slices.Concat(frame0(), frame1()), []api.FrFrame{found(0, 0, 0), found(6, 1, 258)}, nil)
	decodes(t, f, slices.Concat([]byte{1, 2}, frame1(), []byte{3}), []api.FrFrame{found(2, 1, 258)}, []api.FrGap{{From: 0, Until: 2}, {From: 8, Until: 9}})
	// A Sync that has no frame behind it, just before one.
	decodes(t, f, slices.Concat([]byte{65}, frame1()), []api.FrFrame{found(1, 1, 258)}, []api.FrGap{{From: 0, Until: 1}})
	decodes(t, f, slices.Concat([]byte{65, 65, 65}, frame1()), []api.FrFrame{found(3, 1, 258)}, []api.FrGap{{From: 0, Until: 3}})
	// The last byte is missing; the beginning of a frame, and then another one.
	decodes(t, f, frame0()[:5], nil, []api.FrGap{{From: 0, Until: 5}})
	decodes(t, f, slices.Concat(frame0()[:5], frame1()), []api.FrFrame{found(5, 1, 258)}, []api.FrGap{{From: 0, Until: 5}})
	// A counter and words that look like a Sync.
	decodes(t, f, slowEncode(f, 65, []int{65 * 257}), []api.FrFrame{found(0, 65, 65*257)}, nil)
	// Two gaps, each as long as possible.
	decodes(t, f, slices.Concat([]byte{0, 0, 0}, frame0(), []byte{65, 0, 0, 0, 156, 233}), []api.FrFrame{found(3, 0, 0)}, []api.FrGap{{From: 0, Until: 3}, {From: 9, Until: 15}})
}

// P9.4: a frame that begins within another one is none, unless that one is changed.
func TestDecodeWithin(t *testing.T) {
	f := api.FrFormat{Sync: "AA", Words: 4, Depth: 1}
	l := slowEncode(f, 7, []int{65 * 257, 9 * 256, 0, 3})
	inner := slowEncode(f, int(l[5]), []int{0, 0, 3*256 + int(l[11]), int(l[12]) * 256})
	if !slices.Equal(l[3:], inner[:10]) {
		t.Fatalf("%v does not end as %v begins", l, inner)
	}
	l = append(l, inner[10:]...)
	decodes(t, f, l, []api.FrFrame{found(0, 7, 65*257, 9*256, 0, 3)}, []api.FrGap{{From: 13, Until: 16}})
	l[2] = 8
	decodes(t, f, l, []api.FrFrame{found(3, 9, 0, 0, 3*256+int(l[11]), int(l[12])*256)}, []api.FrGap{{From: 0, Until: 3}})
}

// P9.4: how many bytes there may be.
func TestDecodeLong(t *testing.T) {
	f := example()
	l := bytes.Repeat(frame0(), 667)
	frames, gaps, e := frame.Decode(f, l[:4000])
	if len(frames) != 666 || !slices.Equal(gaps, []api.FrGap{{From: 3996, Until: 4000}}) || e != api.OK {
		t.Errorf("Decode of 4000 bytes = %d frames, %v, %d", len(frames), gaps, e)
	}
	frames, gaps, e = frame.Decode(f, l[:4001])
	if frames != nil || gaps != nil || e != api.ErrLong {
		t.Errorf("Decode of 4001 bytes = %v, %v, %d", frames, gaps, e)
	}
	// Where each byte begins a Sync nothing takes long.
	decodes(t, changed(func(f *api.FrFormat) { f.Sync, f.Words = "AAAA", 32 }), bytes.Repeat([]byte("A"), 4000), nil, []api.FrGap{{From: 0, Until: 4000}})
}
