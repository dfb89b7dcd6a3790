package frame_test

import (
	"bytes"
	"math"
	"math/rand"
	"slices"
	"testing"

	"hangfire/api"
	"hangfire/frame"
)

// P9.8
func TestDecodeOfFrames(t *testing.T) {
	r := rand.New(rand.NewSource(981))
	for range 3000 {
		f := randomFormat(r)
		l, numbers := sent(r, f, r.Intn(1000000-100), r.Intn(10), 9)
		tape := slices.Concat(l...)
		frames, gaps, e := frame.Decode(f, tape)
		if len(frames) != len(l) || len(gaps) != 0 || e != api.OK {
			t.Fatalf("Decode of %d frames = %v, %v, %d", len(l), frames, gaps, e)
		}
		for i, x := range frames {
			again, e := frame.Encode(f, numbers[i], x.Words)
			if x.At != i*len(l[0]) || x.Count != numbers[i]%256 || !slices.Equal(again, l[i]) || e != api.OK {
				t.Fatalf("the frame %d of %v is decoded as %v", i, l, x)
			}
		}
	}
}

// P9.8: each frame is what Encode returns, and each byte is in one frame, or in one gap.
func TestDecodeOfAll(t *testing.T) {
	r := rand.New(rand.NewSource(982))
	for range 3000 {
		f := randomFormat(r)
		l := mess(r, f, r.Intn(12))
		frames, gaps, e := frame.Decode(f, l)
		if e != api.OK {
			t.Fatalf("Decode = %d", e)
		}
		times := make([]int, len(l))
		for i, x := range frames {
			again := encode(t, f, x.Count, x.Words...)
			if !slices.Equal(again, l[x.At:x.At+len(again)]) || i > 0 && x.At <= frames[i-1].At {
				t.Fatalf("%v is not as Encode says in %v", x, l)
			}
			for n := range again {
				times[x.At+n]++
			}
		}
		for i, x := range gaps {
			if x.From >= x.Until || i > 0 && x.From <= gaps[i-1].Until {
				t.Fatalf("gaps %v", gaps)
			}
			for n := x.From; n < x.Until; n++ {
				times[n]++
			}
		}
		if slices.ContainsFunc(times, func(n int) bool { return n != 1 }) {
			t.Fatalf("%v has the frames %v and the gaps %v", l, frames, gaps)
		}
	}
}

// turn changes the bits of bytes, from one on, that 16 bits tell, the first one from the highest bit on.
func turn(l []byte, from int, bits uint16) {
	for i := range 16 {
		if at := from + i; bits>>(15-i)&1 == 1 && at < 8*len(l) {
			l[at/8] ^= 0x80 >> (at % 8)
		}
	}
}

// isDecodedAt reports whether there is a frame at a place.
func isDecodedAt(t *testing.T, f api.FrFormat, l []byte, at int) bool {
	frames, _, e := frame.Decode(f, l)
	if e != api.OK {
		t.Fatalf("Decode = %d", e)
	}
	return slices.ContainsFunc(frames, func(x api.FrFrame) bool { return x.At == at })
}

// P9.9: all such changes of one frame.
func TestChangedBits(t *testing.T) {
	f := example()
	for from := range 48 {
		for bits := 1 << 15; bits < 1<<16; bits++ {
			l := frame1()
			turn(l, from, uint16(bits))
			if isDecodedAt(t, f, l, 0) {
				t.Fatalf("%v is decoded, with %b from %d on", l, bits, from)
			}
		}
	}
}

// P9.9: frames of any formats, among others.
func TestChangedBitsAmongOthers(t *testing.T) {
	r := rand.New(rand.NewSource(99))
	for range 20000 {
		f := randomFormat(r)
		l, _ := sent(r, f, r.Intn(2000), 3, 3)
		tape, n := slices.Concat(l...), len(l[0])
		bits := 1<<15 | r.Intn(1<<15)
		if r.Intn(4) == 0 {
			bits = 1<<15 | 1 // only the first and the last one
		}
		turn(tape[n:2*n], r.Intn(8*n), uint16(bits))
		if isDecodedAt(t, f, tape, n) {
			t.Fatalf("%v is decoded as %v", tape, l)
		}
	}
}

// P9.10
func TestApart(t *testing.T) {
	r := rand.New(rand.NewSource(910))
	for range 3000 {
		f := randomFormat(r)
		l, more := mess(r, f, r.Intn(8)), mess(r, f, r.Intn(8))
		frames, gaps, _ := frame.Decode(f, l)
		if len(frames) == 0 {
			continue
		}
		// Up to the end of the last frame.
		last := frames[len(frames)-1]
		end := last.At + len(encode(t, f, last.Count, last.Words...))
		if n := len(gaps); n > 0 && gaps[n-1].Until > end {
			gaps = gaps[:n-1]
		}
		behind, skipped, e := frame.Decode(f, more)
		if e != api.OK {
			t.Fatalf("Decode = %d", e)
		}
		for i := range behind {
			behind[i].At += end
		}
		for i := range skipped {
			skipped[i].From, skipped[i].Until = skipped[i].From+end, skipped[i].Until+end
		}
		both, none, e := frame.Decode(f, slices.Concat(l[:end], more))
		if !same(both, slices.Concat(frames, behind)) || !same(none, slices.Concat(gaps, skipped)) || e != api.OK {
			t.Fatalf("Decode of %v and %v = %v, %v, %d", l[:end], more, both, none, e)
		}
	}
}

// P9.11
func TestCounted(t *testing.T) {
	r := rand.New(rand.NewSource(911))
	far := 0
	for range 3000 {
		f := randomFormat(r)
		first := r.Intn(1000000 - 256*11)
		number, step := first+r.Intn(256), 1+r.Intn(256)
		if r.Intn(10) == 0 {
			number = first + 255
		}
		var tape []byte
		var numbers []int
		for range r.Intn(10) {
			// What is between them begins no frame.
			tape = append(tape, bytes.Repeat([]byte{f.Sync[0] + 1}, r.Intn(3))...)
			tape = append(tape, encode(t, f, number, randomWords(r, f.Words)...)...)
			numbers = append(numbers, number)
			gap := 1 + r.Intn(step)
			if r.Intn(4) == 0 {
				gap = 256
				far++
			}
			number += gap
		}
		got, e := frame.Numbers(f, api.FrTape{Bytes: tape, First: first})
		if !slices.Equal(got, numbers) || e != api.OK {
			t.Fatalf("Numbers from %d = %v, %d, and not %v", first, got, e, numbers)
		}
	}
	if far < 1000 {
		t.Errorf("%d frames are 256 above the one before them", far)
	}
}

// P9.12
func TestSharedWords(t *testing.T) {
	r := rand.New(rand.NewSource(912))
	found := 0
	for range 3000 {
		f := randomFormat(r)
		first := r.Intn(1000)
		want := make([][]api.FrValue, len(f.Channels))
		var tape []byte
		for number := first; number < first+r.Intn(40); number++ {
			values := randomWords(r, len(f.Channels))
			words, e := frame.Commute(f, number, values)
			if e != api.OK {
				t.Fatalf("Commute = %d", e)
			}
			tape = append(tape, encode(t, f, number, words...)...)
			for i, c := range f.Channels {
				if slices.Contains(carried(c, number), number) {
					want[i] = append(want[i], api.FrValue{Number: number, Value: values[i]})
				}
			}
		}
		for i := range f.Channels {
			got, e := frame.Values(f, api.FrTape{Bytes: tape, First: first}, i)
			if !slices.Equal(got, want[i]) || e != api.OK {
				t.Fatalf("Values of %d in %v = %v, %d, and not %v", i, f, got, e, want[i])
			}
			found += len(got)
		}
	}
	if found < 10000 {
		t.Errorf("%d values", found)
	}
}

// P9.13: tapes that have some of the frames that were sent.
func TestReceivers(t *testing.T) {
	r := rand.New(rand.NewSource(9131))
	for range 3000 {
		f := randomFormat(r)
		from := r.Intn(2000)
		l, numbers := sent(r, f, from, r.Intn(12), 20)
		frames, _, _ := frame.Decode(f, slices.Concat(l...))
		tapes := make([]api.FrTape, r.Intn(5))
		var want []api.FrReport
		for i := range tapes {
			tapes[i].First = from
		}
		for j, x := range l {
			y := api.FrReport{Number: numbers[j], Words: frames[j].Words}
			for i := range tapes {
				if r.Intn(3) > 0 {
					continue
				}
				tapes[i].Bytes = append(tapes[i].Bytes, x...)
				if y.Agree == 0 {
					y.From = i
				}
				y.Agree++
			}
			if y.Agree > 0 {
				want = append(want, y)
			}
		}
		got, e := frame.Merge(f, tapes)
		if !same(got, want) || e != api.OK {
			t.Fatalf("Merge of %v = %v, %d, and not %v", tapes, got, e, want)
		}
	}
}

// P9.13: a report that is not marked has the words of each tape that has a frame of its number.
func TestUnmarked(t *testing.T) {
	r := rand.New(rand.NewSource(9132))
	unmarked := 0
	for range 3000 {
		f := randomFormat(r)
		tapes := heardTapes(r, f, r.Intn(5))
		reports, e := frame.Merge(f, tapes)
		if e != api.OK {
			t.Fatalf("Merge = %d", e)
		}
		for i, x := range tapes {
			frames, _, _ := frame.Decode(f, x.Bytes)
			numbers, _ := frame.Numbers(f, x)
			for j, n := range numbers {
				at := slices.IndexFunc(reports, func(y api.FrReport) bool { return y.Number == n })
				if at < 0 {
					t.Fatalf("no report of %d in %v", n, reports)
				}
				if !reports[at].Marked && !slices.Equal(reports[at].Words, frames[j].Words) {
					t.Fatalf("%v is not marked, but the tape %d has %v", reports[at], i, frames[j])
				}
				if !reports[at].Marked {
					unmarked++
				}
			}
		}
	}
	if unmarked < 3000 {
		t.Errorf("%d reports are not marked", unmarked)
	}
}

// voyage is a sky with the directions that the axis truly has from a number on, and reports with which they agree.
type voyage struct {
	f       api.FrFormat
	s       api.FrSky
	from    int
	truth   []int
	reports []api.FrReport
}

// randomDir returns a direction that is about as long as Unit.
func randomDir(r *rand.Rand) api.FlDir {
	x, y, z := r.NormFloat64(), r.NormFloat64(), r.NormFloat64()
	n := 9999 / math.Sqrt(x*x+y*y+z*z)
	return api.FlDir{X: int(n * x), Y: int(n * y), Z: int(n * z)}
}

// randomSky returns a sky without an error, for a format that has channels.
func randomSky(r *rand.Rand, f api.FrFormat) api.FrSky {
	s := api.FrSky{Turn: 99000000 - r.Intn(120000000)}
	for range 1 + r.Intn(30) {
		s.Dirs = append(s.Dirs, randomDir(r))
	}
	for range r.Intn(7) {
		s.Sensors = append(s.Sensors, api.FrSensor{
			Channel: r.Intn(len(f.Channels)), X: r.Intn(40001) - 20000, Y: r.Intn(40001) - 20000, Z: r.Intn(40001) - 20000,
			Scale: 1 + r.Intn(9), Error: r.Intn(12000), Sun: r.Intn(2) == 0,
		})
	}
	return s
}

// tellsOf returns what a sensor is said to tell of a direction, in units of 1 / Unit.
func tellsOf(k api.FrSensor, d api.FlDir) int {
	n := times(partsOf(d), [3]int{k.X, k.Y, k.Z})
	if k.Sun {
		n = max(n, 0)
	}
	return n
}

// wordsOf returns words for a direction: those of channels by the last sensor of each, as far as it can tell it.
func wordsOf(r *rand.Rand, f api.FrFormat, s api.FrSky, number int, d api.FlDir) []int {
	l := randomWords(r, f.Words)
	for _, k := range s.Sensors {
		if c := f.Channels[k.Channel]; number%c.Every == c.Phase {
			l[c.Word] = min(max(32768+tellsOf(k, d)/(10000*k.Scale)+r.Intn(3)-1, 0), 65535)
		}
	}
	return l
}

// forgive lets a sensor be wrong by as much as it is.
func forgive(f api.FrFormat, k *api.FrSensor, d api.FlDir, x api.FrReport) {
	c := f.Channels[k.Channel]
	if x.Number%c.Every == c.Phase {
		wrong := tellsOf(*k, d) - 10000*k.Scale*(x.Words[c.Word]-32768)
		k.Error = max(k.Error, (max(wrong, -wrong)+9999)/10000)
	}
}

// randomVoyage returns a voyage, some of whose reports are missing, and some marked, with any words.
func randomVoyage(r *rand.Rand) voyage {
	v := voyage{from: r.Intn(1000)}
	for len(v.f.Channels) == 0 {
		v.f = randomFormat(r)
	}
	v.s = randomSky(r, v.f)
	at := r.Intn(len(v.s.Dirs))
	for i := range 1 + r.Intn(12) {
		for next := at; ; next = r.Intn(len(v.s.Dirs)) {
			if r.Intn(4) > 0 && times(partsOf(v.s.Dirs[at]), partsOf(v.s.Dirs[next])) >= v.s.Turn {
				at = next
				break
			}
		}
		v.truth = append(v.truth, at)
		x := api.FrReport{Number: v.from + i, From: r.Intn(4), Agree: r.Intn(4), Words: wordsOf(r, v.f, v.s, v.from+i, v.s.Dirs[at])}
		switch r.Intn(6) {
		case 0:
			continue
		case 1:
			x.Marked, x.Words = true, randomWords(r, v.f.Words)
		}
		if !x.Marked {
			for j := range v.s.Sensors {
				forgive(v.f, &v.s.Sensors[j], v.s.Dirs[at], x)
			}
		}
		v.reports = append(v.reports, x)
	}
	v.s.Sensors = slices.DeleteFunc(v.s.Sensors, func(k api.FrSensor) bool { return k.Error > api.MaxFrField })
	return v
}

// P9.14
func TestAxisIsInItsSet(t *testing.T) {
	r := rand.New(rand.NewSource(914))
	left := 0
	for range 10000 {
		v := randomVoyage(r)
		axes, e := frame.Axes(v.f, v.s, v.reports)
		if e != api.OK {
			t.Fatalf("Axes of %v = %d", v, e)
		}
		for _, x := range axes {
			if !slices.Contains(x.Dirs, v.truth[x.Number-v.from]) {
				t.Fatalf("%v is without %d, in %v", x, v.truth[x.Number-v.from], v)
			}
			if len(x.Dirs) < len(v.s.Dirs) {
				left++
			}
		}
	}
	if left < 10000 {
		t.Errorf("%d sets have not all directions", left)
	}
}

// P9.15: with one report less.
func TestOneReportLess(t *testing.T) {
	r := rand.New(rand.NewSource(9151))
	more := 0
	for range 5000 {
		v := randomVoyage(r)
		if len(v.reports) == 0 {
			continue
		}
		all, e1 := frame.Axes(v.f, v.s, v.reports)
		i := r.Intn(len(v.reports))
		some, e2 := frame.Axes(v.f, v.s, slices.Delete(slices.Clone(v.reports), i, i+1))
		if e1 != api.OK || e2 != api.OK {
			t.Fatalf("Axes = %d, %d", e1, e2)
		}
		for _, x := range all {
			for _, y := range some {
				if x.Number != y.Number {
					continue
				}
				for _, d := range x.Dirs {
					if !slices.Contains(y.Dirs, d) {
						t.Fatalf("without the report %d of %v, %v is less than %v", i, v, y, x)
					}
				}
				if len(y.Dirs) > len(x.Dirs) {
					more++
				}
			}
		}
	}
	if more < 1000 {
		t.Errorf("%d sets are more", more)
	}
}

// results returns what all functions return.
func results(f api.FrFormat, s api.FrSky, tapes []api.FrTape, reports []api.FrReport, values, words []int) []any {
	part, at1, e1 := frame.Check(f)
	at2, e2 := frame.CheckSky(f, s)
	commuted, e3 := frame.Commute(f, 1, values)
	encoded, e4 := frame.Encode(f, 1, words)
	decoded, gaps, e5 := frame.Decode(f, tapes[0].Bytes)
	numbers, e6 := frame.Numbers(f, tapes[0])
	shared, e7 := frame.Values(f, tapes[0], 0)
	merged, e8 := frame.Merge(f, tapes)
	axes, e9 := frame.Axes(f, s, reports)
	return []any{frame.Sum(tapes[0].Bytes), part, at1, at2, e1, e2, e3, e4, e5, e6, e7, e8, e9, commuted, encoded, decoded, gaps, numbers, shared, merged, axes}
}

// P9.15: no argument is changed, also not behind the end of a list, and results are new memory.
func TestMemory(t *testing.T) {
	f, s := wide(), sky()
	reports := []api.FrReport{said(4, 32768, 33768, 0, 0), said(6, 1, 2, 3, 4)}
	tapes := []api.FrTape{tapeOf(0, slowEncode(f, 0, []int{1, 2, 3, 4}), []byte{7}, slowEncode(f, 1, []int{5, 6, 7, 8}), []byte{8, 9}), tapeOf(1, slowEncode(f, 1, []int{5, 6, 7, 9}))}
	values, words := []int{1, 2, 3, 4, 5}, []int{6, 7, 8, 9}
	g, z, y, x, v, w := cloneFormat(f), cloneSky(s), cloneTapes(tapes), cloneReports(reports), slices.Clone(values), slices.Clone(words)
	first := results(f, s, tapes, reports, values, words)
	second := results(f, s, tapes, reports, values, words)
	if !same(first, second) {
		t.Errorf("%v, and then %v", first, second)
	}
	for _, l := range second {
		spoil(l)
	}
	if third := results(f, s, tapes, reports, values, words); !same(first, third) {
		t.Errorf("%v, and then %v", first, third)
	}
	if !same(f, g) || !same(s, z) || !same(tapes, y) || !same(reports, x) || !slices.Equal(values, v) || !slices.Equal(words, w) {
		t.Errorf("%v, %v, %v, %v, %v, %v", f, s, tapes, reports, values, words)
	}
}

// spoil changes all of a result.
func spoil(x any) {
	switch l := x.(type) {
	case []int:
		spoilInts(l)
	case []byte:
		clear(l[:cap(l)])
	case []api.FrGap:
		clear(l[:cap(l)])
	case []api.FrValue:
		clear(l[:cap(l)])
	case []api.FrFrame:
		for i := range l {
			spoilInts(l[i].Words)
		}
	case []api.FrReport:
		for i := range l {
			spoilInts(l[i].Words)
		}
	case []api.FrAxes:
		for i := range l {
			spoilInts(l[i].Dirs)
		}
	}
}

func spoilInts(l []int) {
	l = l[:cap(l)]
	for i := range l {
		l[i] = -7
	}
}

// P9.15: no two lists of one result share memory, also not behind their ends.
func TestOwnMemory(t *testing.T) {
	f, s := wide(), sky()
	tape := tapeOf(0, slowEncode(f, 0, []int{1, 2, 3, 4}), slowEncode(f, 1, []int{1, 2, 3, 4}), slowEncode(f, 2, []int{1, 2, 3, 4}))
	frames, _, _ := frame.Decode(f, tape.Bytes)
	reports, _ := frame.Merge(f, []api.FrTape{tape, tape})
	s.Sensors = nil
	axes, _ := frame.Axes(f, s, reports)
	if len(frames) != 3 || len(reports) != 3 || len(axes) != 3 {
		t.Fatalf("%v, %v, %v", frames, reports, axes)
	}
	for i := range 3 {
		spoilInts(frames[i].Words)
		spoilInts(reports[i].Words)
		spoilInts(axes[i].Dirs)
		for j := i + 1; j < 3; j++ {
			if !slices.Equal(frames[j].Words, []int{1, 2, 3, 4}) || !slices.Equal(reports[j].Words, []int{1, 2, 3, 4}) || !slices.Equal(axes[j].Dirs, []int{0, 1, 2}) {
				t.Fatalf("%v, %v, %v", frames, reports, axes)
			}
		}
	}
}

// P9.15: nil lists are the same as empty ones.
func TestNilLists(t *testing.T) {
	nils := api.FrFormat{Sync: "A", Words: 1, Depth: 1}
	empty := nils
	empty.Channels = []api.FrChannel{}
	s := api.FrSky{Dirs: []api.FlDir{{}}}
	z := s
	z.Sensors = []api.FrSensor{}
	one := results(nils, s, []api.FrTape{{}}, nil, nil, []int{5})
	two := results(empty, z, []api.FrTape{{Bytes: []byte{}}}, []api.FrReport{}, []int{}, []int{5})
	if !same(one, two) {
		t.Errorf("%v, and %v", one, two)
	}
}

// oddReports returns reports of which some are odd.
func oddReports(r *rand.Rand, l []api.FrReport) []api.FrReport {
	for i := range l {
		x := &l[i]
		numbers := []*int{&x.Number, &x.From, &x.Agree}
		for j := range x.Words {
			numbers = append(numbers, &x.Words[j])
		}
		if r.Intn(4) == 0 {
			change(r, numbers...)
		}
		if r.Intn(20) == 0 {
			x.Words = nil
		}
	}
	return l
}

// P9.15: no arguments make a function panic, and with an error all other results are zero.
func TestAnyArguments(t *testing.T) {
	r := rand.New(rand.NewSource(9152))
	fine := make([]int, 8)
	for range 30000 {
		v := randomVoyage(r)
		f, s, l := v.f, v.s, oddReports(r, v.reports)
		if r.Intn(3) == 0 {
			f = oddFormat(r)
		}
		d := &s.Dirs[r.Intn(len(s.Dirs))]
		numbers := []*int{&s.Turn, &d.X, &d.Y, &d.Z}
		if len(s.Sensors) > 0 {
			k := &s.Sensors[0]
			numbers = append(numbers, &k.Channel, &k.X, &k.Y, &k.Z, &k.Scale, &k.Error)
		}
		if r.Intn(2) == 0 {
			change(r, numbers...)
		}
		tapes := make([]api.FrTape, r.Intn(6))
		for i := range tapes {
			tapes[i] = api.FrTape{Bytes: noise(r, r.Intn(60)), First: r.Intn(1000)}
			change(r, &tapes[i].First)
		}
		tape := api.FrTape{Bytes: noise(r, r.Intn(50)), First: odd(r)}
		frame.Sum(tape.Bytes)
		commuted, e0 := frame.Commute(f, odd(r), randomWords(r, len(f.Channels)))
		encoded, e1 := frame.Encode(f, odd(r), randomWords(r, min(max(f.Words, 0), 40)))
		decoded, gaps, e2 := frame.Decode(f, tape.Bytes)
		heard, e3 := frame.Numbers(f, tape)
		values, e4 := frame.Values(f, tape, odd(r))
		merged, e5 := frame.Merge(f, tapes)
		_, e6 := frame.CheckSky(f, s)
		axes, e7 := frame.Axes(f, s, l)
		if e2 != api.OK && !isZero(gaps) {
			t.Fatalf("Decode = %v, %d", gaps, e2)
		}
		errors := []api.Errno{e0, e1, e2, e3, e4, e5, e6, e7}
		for i, x := range []any{commuted, encoded, decoded, heard, values, merged, 0, axes} {
			if errors[i] != api.OK && !isZero(x) {
				t.Fatalf("the function %d returns %v, %d", i, x, errors[i])
			}
			if errors[i] == api.OK {
				fine[i]++
			}
		}
	}
	if slices.Min(fine) < 1000 {
		t.Errorf("how often there is no error: %v", fine)
	}
}
