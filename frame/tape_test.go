package frame_test

import (
	"bytes"
	"math"
	"slices"
	"testing"

	"hangfire/api"
	"hangfire/frame"
)

// exampleTape is the tape of the chapter's examples: the first frame, 7, and the second one.
func exampleTape(first int) api.FrTape { return tapeOf(first, frame0(), []byte{7}, frame1()) }

// counted returns a frame of the format E with a counter, whose word is 5.
func counted(count int) []byte { return slowEncode(example(), count, []int{5}) }

// P9.5: the examples, and numbers from anywhere on.
func TestNumbers(t *testing.T) {
	for _, x := range []struct {
		tape api.FrTape
		want []int
	}{
		{exampleTape(0), []int{0, 1}},
		{exampleTape(1), []int{256, 257}},
		{exampleTape(2), []int{256, 257}},
		{exampleTape(256), []int{256, 257}},
		{exampleTape(257), []int{512, 513}},
		{tapeOf(0), nil},
		{tapeOf(1000000), nil},
		{tapeOf(0, []byte{1, 2, 3}), nil},
		{tapeOf(0, counted(255)), []int{255}},
		{tapeOf(255, counted(255)), []int{255}},
		{tapeOf(256, counted(255)), []int{511}},
		{tapeOf(0, counted(5), counted(5), counted(5)), []int{5, 261, 517}},
		{tapeOf(0, counted(5), counted(4)), []int{5, 260}},
		{tapeOf(0, counted(254), counted(255), counted(0), counted(1)), []int{254, 255, 256, 257}},
		{tapeOf(300, counted(43), counted(44), counted(45)), []int{555, 556, 557}},
		{tapeOf(300, counted(44), counted(45)), []int{300, 301}},
		{tapeOf(999999, counted(63), counted(64)), []int{999999, 1000000}},
		{tapeOf(1000000, counted(64)), []int{1000000}},
	} {
		if l, e := frame.Numbers(example(), x.tape); !slices.Equal(l, x.want) || e != api.OK {
			t.Errorf("Numbers of %v = %v, %d", x.tape, l, e)
		}
	}
}

// P9.5: the examples, and channels that are in few frames.
func TestValues(t *testing.T) {
	for i, want := range []api.FrValue{{Number: 0, Value: 0}, {Number: 1, Value: 258}} {
		if l, e := frame.Values(example(), exampleTape(0), i); !slices.Equal(l, []api.FrValue{want}) || e != api.OK {
			t.Errorf("Values of %d = %v, %d", i, l, e)
		}
	}
	// By the number, and not by the counter alone or the place on the tape.
	f := wide()
	x := api.FrTape{First: 100}
	for n := 100; n < 120; n++ {
		if n != 105 {
			x.Bytes = append(x.Bytes, slowEncode(f, n, []int{n, 2 * n, 3 * n, 4 * n})...)
		}
	}
	for i, want := range [][]api.FrValue{
		1: {{Number: 101, Value: 202}, {Number: 103, Value: 206}, {Number: 107, Value: 214}, {Number: 109, Value: 218}, {Number: 111, Value: 222}, {Number: 113, Value: 226}, {Number: 115, Value: 230}, {Number: 117, Value: 234}, {Number: 119, Value: 238}},
		2: {{Number: 100, Value: 200}, {Number: 104, Value: 208}, {Number: 108, Value: 216}, {Number: 112, Value: 224}, {Number: 116, Value: 232}},
		3: {{Number: 102, Value: 204}, {Number: 106, Value: 212}, {Number: 110, Value: 220}, {Number: 114, Value: 228}, {Number: 118, Value: 236}},
		4: {{Number: 101, Value: 303}, {Number: 109, Value: 327}, {Number: 117, Value: 351}},
	} {
		if l, e := frame.Values(f, x, i); i > 0 && (!slices.Equal(l, want) || e != api.OK) {
			t.Errorf("Values of %d = %v, %d", i, l, e)
		}
	}
	if l, e := frame.Values(f, x, 0); len(l) != 19 || l[0] != (api.FrValue{Number: 100, Value: 100}) || e != api.OK {
		t.Errorf("Values of 0 = %v, %d", l, e)
	}
	if l, e := frame.Values(f, tapeOf(7), 0); len(l) != 0 || e != api.OK {
		t.Errorf("Values of nothing = %v, %d", l, e)
	}
}

// longTape returns a tape of so many bytes, without a frame.
func longTape(n, first int) api.FrTape { return api.FrTape{Bytes: make([]byte, n), First: first} }

// P9.5: errors, and their order.
func TestNumbersErrors(t *testing.T) {
	late := []byte{}
	for range 600 {
		late = append(late, counted(0)...)
	}
	for _, x := range []struct {
		tape    api.FrTape
		channel int
		numbers api.Errno
		values  api.Errno
	}{
		{longTape(4000, 0), a, api.OK, api.OK},
		{longTape(4001, 0), a, api.ErrLong, api.ErrLong},
		{longTape(4001, -1), -1, api.ErrLong, api.ErrLong},
		{longTape(0, -1), a, api.ErrRange, api.ErrRange},
		{longTape(0, 1000001), a, api.ErrRange, api.ErrRange},
		{longTape(0, math.MinInt), a, api.ErrRange, api.ErrRange},
		{longTape(0, math.MaxInt), a, api.ErrRange, api.ErrRange},
		{longTape(0, -1), -1, api.ErrRange, api.ErrRange},
		{longTape(0, 1000000), a, api.OK, api.OK},
		{longTape(0, 0), -1, api.OK, api.ErrNone},
		{longTape(0, 0), 2, api.OK, api.ErrNone},
		{longTape(0, 0), math.MinInt, api.OK, api.ErrNone},
		{longTape(0, 0), math.MaxInt, api.OK, api.ErrNone},
		{tapeOf(1000000, counted(65)), a, api.ErrRange, api.ErrRange},
		{tapeOf(1000000, counted(65)), 2, api.ErrRange, api.ErrNone},
		{tapeOf(1000000, counted(64), counted(65)), a, api.ErrRange, api.ErrRange},
		{tapeOf(1000000, counted(64), counted(64)), b, api.ErrRange, api.ErrRange},
		{tapeOf(1000000, counted(0)), a, api.ErrRange, api.ErrRange},
		{tapeOf(850000, late), a, api.ErrRange, api.ErrRange},
		{tapeOf(800000, late), a, api.OK, api.OK},
	} {
		l, e := frame.Numbers(example(), x.tape)
		if e != x.numbers || e != api.OK && l != nil {
			t.Errorf("Numbers from %d of %d bytes = %v, %d", x.tape.First, len(x.tape.Bytes), l, e)
		}
		v, e := frame.Values(example(), x.tape, x.channel)
		if e != x.values || e != api.OK && v != nil {
			t.Errorf("Values of %d from %d of %d bytes = %v, %d", x.channel, x.tape.First, len(x.tape.Bytes), v, e)
		}
	}
	none := api.FrFormat{Sync: "A", Words: 1, Depth: 1}
	if l, e := frame.Values(none, exampleTape(0), 0); l != nil || e != api.ErrNone {
		t.Errorf("Values without channels = %v, %d", l, e)
	}
}

func merges(t *testing.T, f api.FrFormat, l []api.FrTape, want ...api.FrReport) {
	t.Helper()
	if got, e := frame.Merge(f, l); !same(got, want) || e != api.OK {
		t.Errorf("Merge of %v = %v, %d", l, got, e)
	}
}

// P9.6: the example, and who has the most tapes.
func TestMerge(t *testing.T) {
	f := example()
	zero := api.FrReport{Number: 0, Agree: 1, Words: []int{0}}
	merges(t, f, []api.FrTape{exampleTape(0), tapeOf(0, frame1()), tapeOf(0, frame257())}, zero, api.FrReport{Number: 1, From: 0, Agree: 2, Marked: true, Words: []int{258}})
	merges(t, f, nil)
	merges(t, f, []api.FrTape{{}, {}, {}, {}})
	merges(t, f, []api.FrTape{tapeOf(0), exampleTape(0)}, api.FrReport{Number: 0, From: 1, Agree: 1, Words: []int{0}}, api.FrReport{Number: 1, From: 1, Agree: 1, Words: []int{258}})
	// Each tape has another First, and the numbers ascend, whichever tape has them.
	merges(t, f, []api.FrTape{exampleTape(1), exampleTape(0), exampleTape(2)},
		api.FrReport{Number: 0, From: 1, Agree: 1, Words: []int{0}}, api.FrReport{Number: 1, From: 1, Agree: 1, Words: []int{258}},
		api.FrReport{Number: 256, From: 0, Agree: 2, Words: []int{0}}, api.FrReport{Number: 257, From: 0, Agree: 2, Words: []int{258}})
	// What tapes have in their frame with the number 1.
	p, q, x := frame1(), frame257(), slowEncode(f, 1, []int{5})
	for _, y := range []struct {
		tapes       [][]byte
		from, agree int
		marked      bool
		word        int
	}{
		{[][]byte{p}, 0, 1, false, 258},
		{[][]byte{p, p, p, p}, 0, 4, false, 258},
		{[][]byte{nil, p, nil, p}, 1, 2, false, 258},
		{[][]byte{p, q}, 0, 1, true, 258},
		{[][]byte{q, p}, 0, 1, true, 0},
		{[][]byte{p, q, q}, 1, 2, true, 0},
		{[][]byte{q, p, q, p}, 0, 2, true, 0},
		{[][]byte{p, q, q, p}, 0, 2, true, 258},
		{[][]byte{x, p, q, q}, 2, 2, true, 0},
		{[][]byte{x, p, q, p}, 1, 2, true, 258},
		{[][]byte{nil, x, p, q}, 1, 1, true, 5},
		{[][]byte{x, p, p, p}, 1, 3, true, 258},
		{[][]byte{p, p, p, x}, 0, 3, true, 258},
	} {
		var l []api.FrTape
		for _, b := range y.tapes {
			l = append(l, tapeOf(0, b))
		}
		merges(t, f, l, api.FrReport{Number: 1, From: y.from, Agree: y.agree, Marked: y.marked, Words: []int{y.word}})
	}
}

// P9.6: words that differ only in the last one.
func TestMergeLastWord(t *testing.T) {
	f := api.FrFormat{Sync: "A", Words: 32, Depth: 1}
	p, q := make([]int, 32), make([]int, 32)
	q[31] = 1
	l := []api.FrTape{tapeOf(0, slowEncode(f, 3, p)), tapeOf(0, slowEncode(f, 3, q)), tapeOf(0, slowEncode(f, 3, q))}
	merges(t, f, l, api.FrReport{Number: 3, From: 1, Agree: 2, Marked: true, Words: q})
	merges(t, f, l[:2], api.FrReport{Number: 3, From: 0, Agree: 1, Marked: true, Words: p})
}

// P9.6: errors, and their order.
func TestMergeErrors(t *testing.T) {
	fine, long, range1, beyond := exampleTape(0), longTape(4001, 0), longTape(0, -1), tapeOf(1000000, counted(65))
	for i, x := range []struct {
		l []api.FrTape
		e api.Errno
	}{
		{[]api.FrTape{fine, fine, fine, fine}, api.OK},
		{[]api.FrTape{fine, fine, fine, fine, fine}, api.ErrLong},
		{[]api.FrTape{range1, fine, fine, fine, fine}, api.ErrLong},
		{[]api.FrTape{range1}, api.ErrRange},
		{[]api.FrTape{fine, fine, fine, range1}, api.ErrRange},
		{[]api.FrTape{fine, long}, api.ErrLong},
		{[]api.FrTape{long, range1}, api.ErrLong},
		{[]api.FrTape{range1, long}, api.ErrRange},
		{[]api.FrTape{beyond, long}, api.ErrRange},
		{[]api.FrTape{fine, beyond}, api.ErrRange},
		{[]api.FrTape{long, beyond}, api.ErrLong},
		{make([]api.FrTape, 1000), api.ErrLong},
	} {
		if l, e := frame.Merge(example(), x.l); e != x.e || e != api.OK && l != nil {
			t.Errorf("%d: Merge = %v, %d", i, l, e)
		}
	}
}

// P9.6: tapes that are full, with as few bytes in a frame as there can be.
func TestMergeFull(t *testing.T) {
	full := tapeOf(0, bytes.Repeat(frame0(), 666))
	l, e := frame.Merge(example(), []api.FrTape{full, full, full, full})
	if len(l) != 666 || l[665].Number != 665*256 || l[665].Agree != 4 || e != api.OK {
		t.Errorf("Merge = %d reports, %d", len(l), e)
	}
}
