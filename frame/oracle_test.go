package frame_test

import (
	"math/rand"
	"slices"
	"testing"

	"hangfire/api"
	"hangfire/frame"
)

// This file reads the definitions a second time: bit by bit, frame by frame, and number by number.

// slowSum returns the check sum of bytes as what is left of a division of polynomials: of the bits, and 16 bits 0 behind them, the first 16 turned, by that with the bits of 65536 and 4129.
func slowSum(l []byte) int {
	var bits []int
	for _, x := range l {
		for i := 7; i >= 0; i-- {
			bits = append(bits, int(x>>i)&1)
		}
	}
	bits = append(bits, make([]int, 16)...)
	for i := range 16 {
		bits[i] = 1 - bits[i]
	}
	for i := 0; i+16 < len(bits); i++ {
		if bits[i] == 1 {
			for _, k := range []int{0, 4, 11, 16} {
				bits[i+k] = 1 - bits[i+k]
			}
		}
	}
	n := 0
	for _, x := range bits[len(bits)-16:] {
		n = 2*n + x
	}
	return n
}

// slowEncode returns a frame.
func slowEncode(f api.FrFormat, number int, words []int) []byte {
	l := []byte(f.Sync)
	for number >= 256 {
		number -= 256
	}
	l = append(l, byte(number))
	for _, w := range words {
		l = append(l, byte(w/256), byte(w%256))
	}
	s := slowSum(l)
	return append(l, byte(s/256), byte(s%256))
}

// carried returns the numbers of the frames, up to some number, that a channel is in.
func carried(c api.FrChannel, until int) (l []int) {
	for n := c.Phase; n <= until; n += c.Every {
		l = append(l, n)
	}
	return l
}

// meet reports whether channels are in the same one of the first frames at the same word.
func meet(x, y api.FrChannel) bool {
	l := carried(y, 16)
	return x.Word == y.Word && slices.ContainsFunc(carried(x, 16), func(n int) bool { return slices.Contains(l, n) })
}

// fromBytes returns the frame at a place, and whether there is one.
func fromBytes(f api.FrFormat, l []byte, at int) (x api.FrFrame, ok bool) {
	n := len(f.Sync) + 2*f.Words + 3
	if at+n > len(l) {
		return x, false
	}
	x.At, x.Count = at, int(l[at+len(f.Sync)])
	for i := at + len(f.Sync) + 1; i < at+n-2; i += 2 {
		x.Words = append(x.Words, 256*int(l[i])+int(l[i+1]))
	}
	return x, slices.Equal(slowEncode(f, x.Count, x.Words), l[at:at+n])
}

// slowDecode returns what is decoded, and the gaps, which come from telling of each byte where it is.
func slowDecode(f api.FrFormat, l []byte) (frames []api.FrFrame, gaps []api.FrGap) {
	in := make([]bool, len(l)+1)
	for at := 0; at < len(l); {
		x, ok := fromBytes(f, l, at)
		if !ok {
			at++
			continue
		}
		frames = append(frames, x)
		for range len(f.Sync) + 2*f.Words + 3 {
			in[at] = true
			at++
		}
	}
	in[len(l)] = true
	for from := 0; from < len(l); from++ {
		if in[from] || from > 0 && !in[from-1] {
			continue
		}
		until := from
		for !in[until] {
			until++
		}
		gaps = append(gaps, api.FrGap{From: from, Until: until})
	}
	return frames, gaps
}

// slowNumbers returns the numbers of frames, counted up one by one.
func slowNumbers(frames []api.FrFrame, first int) (l []int) {
	n := first
	for _, x := range frames {
		for n%256 != x.Count {
			n++
		}
		l = append(l, n)
		n++
	}
	return l
}

// slowMerge returns the reports of tapes without an error: each number is asked of each tape.
func slowMerge(f api.FrFormat, l []api.FrTape) (reports []api.FrReport) {
	told := make([]map[int][]int, len(l))
	last := 0
	for i, t := range l {
		told[i] = map[int][]int{}
		frames, _ := slowDecode(f, t.Bytes)
		for j, n := range slowNumbers(frames, t.First) {
			told[i][n] = frames[j].Words
			last = max(last, n)
		}
	}
	for n := 0; n <= last; n++ {
		best := api.FrReport{Number: n}
		for i := range l {
			if told[i][n] == nil {
				continue
			}
			agree := 0
			for j := range l {
				if slices.Equal(told[i][n], told[j][n]) {
					agree++
				} else if told[j][n] != nil {
					best.Marked = true
				}
			}
			if agree > best.Agree {
				best.Agree, best.From, best.Words = agree, i, told[i][n]
			}
		}
		if best.Agree > 0 {
			reports = append(reports, best)
		}
	}
	return reports
}

// times returns the sum of the products of parts.
func times(p, q [3]int) (n int) {
	for i := range 3 {
		n += p[i] * q[i]
	}
	return n
}

func partsOf(d api.FlDir) [3]int { return [3]int{d.X, d.Y, d.Z} }

// fits reports whether a direction agrees with all sensors by a report.
func fits(f api.FrFormat, s api.FrSky, d api.FlDir, x api.FrReport) bool {
	for _, k := range s.Sensors {
		c := f.Channels[k.Channel]
		if !slices.Contains(carried(c, x.Number), x.Number) {
			continue
		}
		p := times(partsOf(d), [3]int{k.X, k.Y, k.Z})
		if k.Sun && p < 0 {
			p = 0
		}
		// What the sensor tells, and what it may be wrong by, in units of Unit.
		told := k.Scale * (x.Words[c.Word] - 32768)
		if p > 10000*(told+k.Error) || p < 10000*(told-k.Error) {
			return false
		}
	}
	return true
}

// slowAxes returns the axes by reports: whether there is a way to each direction, looked for backward.
func slowAxes(f api.FrFormat, s api.FrSky, l []api.FrReport) (axes []api.FrAxes) {
	if len(l) == 0 {
		return nil
	}
	reports := map[int]api.FrReport{}
	for _, x := range l {
		reports[x.Number] = x
	}
	known := map[[2]int]bool{}
	var can func(n, d int) bool
	can = func(n, d int) bool {
		if is, ok := known[[2]int{n, d}]; ok {
			return is
		}
		is := n == l[0].Number
		for i := 0; i < len(s.Dirs) && !is; i++ {
			is = times(partsOf(s.Dirs[i]), partsOf(s.Dirs[d])) >= s.Turn && can(n-1, i)
		}
		if x, ok := reports[n]; ok && !x.Marked {
			is = is && fits(f, s, s.Dirs[d], x)
		}
		known[[2]int{n, d}] = is
		return is
	}
	for n := l[0].Number; n <= l[len(l)-1].Number; n++ {
		x := api.FrAxes{Number: n}
		for d := range s.Dirs {
			if can(n, d) {
				x.Dirs = append(x.Dirs, d)
			}
		}
		axes = append(axes, x)
	}
	return axes
}

// P9.2: as it is read a second time.
func TestSumAgain(t *testing.T) {
	r := rand.New(rand.NewSource(902))
	for n := range 2000 {
		l := noise(r, n%90)
		if got, want := frame.Sum(l), slowSum(l); got != want {
			t.Fatalf("Sum of %v = %d, and not %d", l, got, want)
		}
	}
	for x := range 256 {
		for y := range 256 {
			l := []byte{byte(x), byte(y)}
			if got, want := frame.Sum(l), slowSum(l); got != want {
				t.Fatalf("Sum of %v = %d, and not %d", l, got, want)
			}
		}
	}
}

// P9.3: as it is read a second time.
func TestEncodeAgain(t *testing.T) {
	r := rand.New(rand.NewSource(903))
	for range 5000 {
		f := randomFormat(r)
		number, values := r.Intn(2000), randomWords(r, len(f.Channels))
		words := make([]int, f.Words)
		for i, c := range f.Channels {
			if slices.Contains(carried(c, number), number) {
				words[c.Word] = values[i]
			}
		}
		got, e := frame.Commute(f, number, values)
		if !slices.Equal(got, words) || e != api.OK {
			t.Fatalf("Commute of %v for %d in %v = %v, %d, and not %v", values, number, f, got, e, words)
		}
		words = randomWords(r, f.Words)
		l, e := frame.Encode(f, number, words)
		if want := slowEncode(f, number, words); !slices.Equal(l, want) || e != api.OK {
			t.Fatalf("Encode of %d and %v in %v = %v, %d, and not %v", number, words, f, l, e, want)
		}
	}
}

// P9.4: as it is read a second time.
func TestDecodeAgain(t *testing.T) {
	r := rand.New(rand.NewSource(904))
	decoded, skipped := 0, 0
	for range 3000 {
		f := randomFormat(r)
		l := mess(r, f, r.Intn(12))
		frames, gaps, e := frame.Decode(f, l)
		want, none := slowDecode(f, l)
		if !same(frames, want) || !same(gaps, none) || e != api.OK {
			t.Fatalf("Decode of %v in %v = %v, %v, %d, and not %v, %v", l, f, frames, gaps, e, want, none)
		}
		decoded, skipped = decoded+len(frames), skipped+len(gaps)
	}
	if decoded < 3000 || skipped < 3000 {
		t.Errorf("%d frames, %d gaps", decoded, skipped)
	}
}

// P9.5: as it is read a second time.
func TestNumbersAgain(t *testing.T) {
	r := rand.New(rand.NewSource(905))
	found, beyond := 0, 0
	for range 3000 {
		f := randomFormat(r)
		x := api.FrTape{Bytes: mess(r, f, r.Intn(12)), First: r.Intn(600)}
		if r.Intn(3) == 0 {
			x.First = api.MaxFrNumber - r.Intn(600)
		}
		frames, _ := slowDecode(f, x.Bytes)
		numbers := slowNumbers(frames, x.First)
		var want api.Errno
		if n := len(numbers); n > 0 && numbers[n-1] > 1000000 {
			numbers, want = nil, api.ErrRange
			beyond++
		}
		got, e := frame.Numbers(f, x)
		if !slices.Equal(got, numbers) || e != want {
			t.Fatalf("Numbers of %v in %v = %v, %d, and not %v", x, f, got, e, numbers)
		}
		for i, c := range f.Channels {
			var values []api.FrValue
			for j, n := range numbers {
				if n%c.Every == c.Phase {
					values = append(values, api.FrValue{Number: n, Value: frames[j].Words[c.Word]})
				}
			}
			got, e := frame.Values(f, x, i)
			if !slices.Equal(got, values) || e != want {
				t.Fatalf("Values of %d of %v in %v = %v, %d, and not %v", i, x, f, got, e, values)
			}
			found += len(values)
		}
	}
	if found < 3000 || beyond < 100 {
		t.Errorf("%d values; numbers are above the greatest one %d times", found, beyond)
	}
}

// heardTapes returns tapes of the same frames, of which some are missing, or have other words.
func heardTapes(r *rand.Rand, f api.FrFormat, n int) []api.FrTape {
	from := r.Intn(400)
	l, _ := sent(r, f, from, 1+r.Intn(8), 3)
	other, _ := sent(r, f, from, 8, 3)
	tapes := make([]api.FrTape, n)
	for i := range tapes {
		x := &tapes[i]
		x.First = from
		for j := range l {
			switch r.Intn(8) {
			case 0:
			case 1:
				x.Bytes = append(x.Bytes, noise(r, r.Intn(8))...)
			case 2, 3:
				y := slices.Clone(other[j])
				y[len(f.Sync)] = l[j][len(f.Sync)]
				sum := slowSum(y[:len(y)-2])
				y[len(y)-2], y[len(y)-1] = byte(sum/256), byte(sum%256)
				x.Bytes = append(x.Bytes, y...)
			default:
				x.Bytes = append(x.Bytes, l[j]...)
			}
		}
	}
	return tapes
}

// P9.6: as it is read a second time.
func TestMergeAgain(t *testing.T) {
	r := rand.New(rand.NewSource(906))
	ties, marked := 0, 0
	for range 3000 {
		f := randomFormat(r)
		l := heardTapes(r, f, r.Intn(5))
		got, e := frame.Merge(f, l)
		want := slowMerge(f, l)
		if !same(got, want) || e != api.OK {
			t.Fatalf("Merge of %v in %v = %v, %d, and not %v", l, f, got, e, want)
		}
		for _, x := range got {
			if x.Marked {
				marked++
			}
			if x.Marked && x.Agree == 1 {
				ties++
			}
		}
	}
	if ties < 300 || marked < 1000 {
		t.Errorf("%d reports are marked, %d of them with words of one tape", marked, ties)
	}
}

// P9.7: as it is read a second time.
func TestAxesAgain(t *testing.T) {
	r := rand.New(rand.NewSource(907))
	sizes := map[int]int{}
	for range 4000 {
		v := randomVoyage(r)
		l := v.reports
		for i := range l {
			if r.Intn(10) == 0 {
				l[i].Words = randomWords(r, v.f.Words)
			}
		}
		got, e := frame.Axes(v.f, v.s, l)
		want := slowAxes(v.f, v.s, l)
		if !same(got, want) || e != api.OK {
			t.Fatalf("Axes of %v in %v, %v = %v, %d, and not %v", l, v.f, v.s, got, e, want)
		}
		for _, x := range got {
			sizes[min(len(x.Dirs), 3)]++
		}
	}
	for n := range 4 {
		if sizes[n] < 500 {
			t.Errorf("sets of each size: %v", sizes)
		}
	}
}
