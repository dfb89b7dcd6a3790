package frame_test

import (
	"math"
	"math/rand"
	"reflect"
	"slices"
	"strings"
	"testing"

	"hangfire/api"
	"hangfire/frame"
)

// The channels of the examples.
const a, b = 0, 1

// example is the format E of the chapter's examples.
func example() api.FrFormat {
	return api.FrFormat{Sync: "A", Words: 1, Depth: 2, Channels: []api.FrChannel{
		{Name: "a", Word: 0, Every: 2, Phase: 0},
		{Name: "b", Word: 0, Every: 2, Phase: 1},
	}}
}

// wide is a format with channels that share words in all ways: of its 8 frames the word 0 has x in each, the word 1 has y in every second one, and z and u in every fourth one, and the word 2 has v in one of them.
func wide() api.FrFormat {
	return api.FrFormat{Sync: "\xeb\x90", Words: 4, Depth: 8, Channels: []api.FrChannel{
		{Name: "x", Word: 0, Every: 1, Phase: 0},
		{Name: "y", Word: 1, Every: 2, Phase: 1},
		{Name: "z", Word: 1, Every: 4, Phase: 0},
		{Name: "u", Word: 1, Every: 4, Phase: 2},
		{Name: "v", Word: 2, Every: 8, Phase: 5},
	}}
}

// changed returns the format E with a change.
func changed(change func(f *api.FrFormat)) api.FrFormat {
	f := example()
	change(&f)
	return f
}

// sky is the sky S of the chapter's examples.
func sky() api.FrSky {
	return api.FrSky{
		Dirs: []api.FlDir{{Z: 10000}, {X: 6000, Z: 8000}, {Y: 6000, Z: 8000}},
		Turn: 70000000,
		Sensors: []api.FrSensor{
			{Channel: a, Z: 20000, Scale: 10, Error: 500},
			{Channel: b, X: 5000, Scale: 1, Error: 100, Sun: true},
		},
	}
}

// changedSky returns the sky S with a change.
func changedSky(change func(s *api.FrSky)) api.FrSky {
	s := sky()
	change(&s)
	return s
}

// The frames of the chapter's examples.
func frame0() []byte { return []byte{65, 0, 0, 0, 156, 232} }

func frame1() []byte { return []byte{65, 1, 1, 2, 184, 171} }

func frame257() []byte { return []byte{65, 1, 0, 0, 171, 216} }

// tapeOf returns a tape of bytes, one behind the other.
func tapeOf(first int, l ...[]byte) api.FrTape {
	return api.FrTape{Bytes: slices.Concat(l...), First: first}
}

// encode returns a frame, which has to be as stated.
func encode(t *testing.T, f api.FrFormat, number int, words ...int) []byte {
	t.Helper()
	l, e := frame.Encode(f, number, words)
	if e != api.OK {
		t.Fatalf("Encode of %d and %v = %d", number, words, e)
	}
	return l
}

// said returns a report that is not marked.
func said(number int, words ...int) api.FrReport {
	return api.FrReport{Number: number, Words: words, Agree: 1}
}

// same reports whether values are equal, if nil lists are the same as empty ones.
func same(x, y any) bool {
	v, w := reflect.ValueOf(x), reflect.ValueOf(y)
	if v.Type() != w.Type() {
		return false
	}
	switch v.Kind() {
	case reflect.Slice:
		if v.Len() != w.Len() {
			return false
		}
		for i := range v.Len() {
			if !same(v.Index(i).Interface(), w.Index(i).Interface()) {
				return false
			}
		}
		return true
	case reflect.Struct:
		for i := range v.NumField() {
			if !same(v.Field(i).Interface(), w.Field(i).Interface()) {
				return false
			}
		}
		return true
	}
	return x == y
}

// isZero reports whether a value is its zero value, or an empty list.
func isZero(x any) bool {
	v := reflect.ValueOf(x)
	return v.Kind() == reflect.Slice && v.Len() == 0 || v.IsZero()
}

func cloneFormat(f api.FrFormat) api.FrFormat {
	f.Channels = slices.Clone(f.Channels)
	return f
}

func cloneSky(s api.FrSky) api.FrSky {
	s.Dirs, s.Sensors = slices.Clone(s.Dirs), slices.Clone(s.Sensors)
	return s
}

func cloneTapes(l []api.FrTape) []api.FrTape {
	l = slices.Clone(l)
	for i := range l {
		l[i].Bytes = slices.Clone(l[i].Bytes)
	}
	return l
}

func cloneReports(l []api.FrReport) []api.FrReport {
	l = slices.Clone(l)
	for i := range l {
		l[i].Words = slices.Clone(l[i].Words)
	}
	return l
}

// randomSync returns from 1 to 4 bytes, of few kinds, so that what looks like one is often elsewhere.
func randomSync(r *rand.Rand) string {
	if r.Intn(4) == 0 {
		return strings.Repeat("A", 1+r.Intn(4))
	}
	l := make([]byte, 1+r.Intn(4))
	for i := range l {
		l[i] = "A\x00\xff\x01"[r.Intn(4)]
	}
	return string(l)
}

// randomFormat returns a format without an error.
func randomFormat(r *rand.Rand) api.FrFormat {
	f := api.FrFormat{Sync: randomSync(r), Words: 1 + r.Intn(4), Depth: 1 << r.Intn(5)}
	if r.Intn(8) == 0 {
		f.Words = 32
	}
	for range r.Intn(20) {
		every := 1 << r.Intn(5)
		c := api.FrChannel{Name: "c" + string(rune('a'+len(f.Channels))), Word: r.Intn(f.Words), Every: every, Phase: r.Intn(every)}
		if len(f.Channels) < 12 && every <= f.Depth && !slices.ContainsFunc(f.Channels, func(x api.FrChannel) bool { return meet(x, c) }) {
			f.Channels = append(f.Channels, c)
		}
	}
	return f
}

// randomWord returns a word, often one that is at an end, or that has a byte of a Sync.
func randomWord(r *rand.Rand) int {
	return []int{0, 65535, 65 * 257, 65, 256 * 65, 32768, r.Intn(65536), r.Intn(65536)}[r.Intn(8)]
}

func randomWords(r *rand.Rand, n int) []int {
	l := make([]int, n)
	for i := range l {
		l[i] = randomWord(r)
	}
	return l
}

// noise returns some bytes, often such as a Sync has.
func noise(r *rand.Rand, n int) []byte {
	l := make([]byte, n)
	for i := range l {
		l[i] = "A\x00\xff\x01"[r.Intn(4)]
		if r.Intn(3) == 0 {
			l[i] = byte(r.Intn(256))
		}
	}
	return l
}

// sent returns frames with ascending numbers from a number on, as a format says.
func sent(r *rand.Rand, f api.FrFormat, from, n, step int) (l [][]byte, numbers []int) {
	number := from
	for range n {
		l = append(l, slowEncode(f, number, randomWords(r, f.Words)))
		numbers = append(numbers, number)
		number += 1 + r.Intn(step)
	}
	return l, numbers
}

// mess returns bytes of frames, some of which are cut, or changed, or have noise before them.
func mess(r *rand.Rand, f api.FrFormat, n int) (bytes []byte) {
	l, _ := sent(r, f, r.Intn(300), n, 3)
	for _, x := range l {
		switch r.Intn(6) {
		case 0:
			bytes = append(bytes, noise(r, r.Intn(9))...)
		case 1:
			x = x[:r.Intn(len(x))]
		case 2:
			x[r.Intn(len(x))] ^= 1 << r.Intn(8)
		case 3:
			bytes = append(bytes, f.Sync[:r.Intn(len(f.Sync)+1)]...)
		}
		bytes = append(bytes, x...)
	}
	return bytes[:min(len(bytes), api.MaxFrBytes)]
}

// odd returns a number that is often beyond all limits.
func odd(r *rand.Rand) int {
	return []int{math.MinInt, math.MinInt + 1, -100000001, -100000000, -1000001, -10001, -1, 0, 1, 2, 3, 4, 8, 16, 32, 33, 64, 65535, 65536, 1000000, 1000001, 100000000, math.MaxInt - 1, math.MaxInt, r.Intn(20), int(r.Uint64())}[r.Intn(26)]
}

// change sets some of the numbers to odd ones.
func change(r *rand.Rand, numbers ...*int) {
	for range r.Intn(3) {
		*numbers[r.Intn(len(numbers))] = odd(r)
	}
}
