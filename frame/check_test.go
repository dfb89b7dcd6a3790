package frame_test

import (
	"math"
	"math/rand"
	"slices"
	"strings"
	"testing"

	"hangfire/api"
	"hangfire/frame"
	"hangfire/wind"
)

// everyError returns the errors of all functions with a format but Check, with other arguments that are not valid either.
func everyError(f api.FrFormat) []api.Errno {
	long := make([]byte, 4001)
	_, e1 := frame.Commute(f, -1, nil)
	_, e2 := frame.Encode(f, -1, nil)
	_, _, e3 := frame.Decode(f, long)
	_, e4 := frame.Numbers(f, api.FrTape{Bytes: long, First: -1})
	_, e5 := frame.Values(f, api.FrTape{Bytes: long, First: -1}, -1)
	_, e6 := frame.Merge(f, make([]api.FrTape, 5))
	_, e7 := frame.CheckSky(f, api.FrSky{})
	_, e8 := frame.Axes(f, api.FrSky{}, []api.FrReport{{Number: -1}})
	return []api.Errno{e1, e2, e3, e4, e5, e6, e7, e8}
}

// formatCase is a change of the format E, and what Check returns of it.
type formatCase struct {
	change   func(f *api.FrFormat)
	part, at int
	e        api.Errno
}

func runFormats(t *testing.T, l []formatCase) {
	t.Helper()
	for i, x := range l {
		f := changed(x.change)
		if part, at, e := frame.Check(f); part != x.part || at != x.at || e != x.e {
			t.Errorf("%d: Check of %v = %d, %d, %d", i, f, part, at, e)
		}
		if x.e == api.OK {
			continue
		}
		for j, e := range everyError(f) {
			if e != x.e {
				t.Errorf("%d: the function %d returns %d", i, j, e)
			}
		}
	}
}

// P9.1: the formats of the examples and of other tests have no error.
func TestCheckFine(t *testing.T) {
	for _, f := range []api.FrFormat{example(), wide(), {Sync: "A", Words: 1, Depth: 1}} {
		if part, at, e := frame.Check(f); part != 0 || at != 0 || e != api.OK {
			t.Errorf("Check of %v = %d, %d, %d", f, part, at, e)
		}
	}
	if part, at, e := frame.Check(api.FrFormat{}); part != 1 || at != 0 || e != api.ErrLong {
		t.Errorf("Check of nothing = %d, %d, %d", part, at, e)
	}
}

// many returns so many channels, each one at the word 0 in every 16th frame.
func many(n int) (l []api.FrChannel) {
	for i := range n {
		l = append(l, api.FrChannel{Name: "c" + string(rune('a'+i)), Every: 16, Phase: i})
	}
	return l
}

// P9.1: Sync, and how many channels there are.
func TestCheckLong(t *testing.T) {
	sync := func(s string) func(*api.FrFormat) { return func(f *api.FrFormat) { f.Sync = s } }
	channels := func(n int) func(*api.FrFormat) {
		return func(f *api.FrFormat) { f.Depth, f.Channels = 16, many(n) }
	}
	runFormats(t, []formatCase{
		{sync(""), 1, 0, api.ErrLong},
		{sync("ABCDE"), 1, 0, api.ErrLong},
		{sync(strings.Repeat("A", 5000)), 1, 0, api.ErrLong},
		{sync("A"), 0, 0, api.OK},
		{sync("ABCD"), 0, 0, api.OK},
		{sync("AAAA"), 0, 0, api.OK},
		{sync("\x00"), 0, 0, api.OK},
		{sync("\xff\xfe \n"), 0, 0, api.OK},
		{sync("\u00e9\u00e9"), 0, 0, api.OK}, // 4 bytes
		{sync("\u00e9\u00e9A"), 1, 0, api.ErrLong},
		{channels(0), 0, 0, api.OK},
		{channels(12), 0, 0, api.OK},
		{channels(13), 1, 0, api.ErrLong},
	})
}

// P9.1: Words and Depth.
func TestCheckNumbers(t *testing.T) {
	for _, n := range []int{math.MinInt, -1, 0, 1, 2, 31, 32, 33, math.MaxInt} {
		want := formatCase{change: func(f *api.FrFormat) { f.Words = n }}
		if n < 1 || n > 32 {
			want.part, want.e = 1, api.ErrRange
		}
		runFormats(t, []formatCase{want})
	}
	numbers := []int{math.MinInt, -16, math.MaxInt, 1 << 32, 1<<32 + 1}
	for n := range 40 {
		numbers = append(numbers, n-2)
	}
	for _, n := range numbers {
		want := formatCase{change: func(f *api.FrFormat) { f.Depth, f.Channels = n, nil }}
		if !slices.Contains([]int{1, 2, 4, 8, 16}, n) {
			want.part, want.e = 1, api.ErrRange
		}
		runFormats(t, []formatCase{want})
	}
}

// P9.1: one channel.
func TestCheckChannel(t *testing.T) {
	for _, name := range []string{"", "A", "1", "-", "a b", "aB", "a_", "\u00e9", strings.Repeat("a", 25)} {
		runFormats(t, []formatCase{{func(f *api.FrFormat) { f.Channels[b].Name = name }, 2, b, api.ErrForm}})
	}
	for _, name := range []string{"z", "a1", "a-", strings.Repeat("a", 24)} {
		runFormats(t, []formatCase{{change: func(f *api.FrFormat) { f.Channels[b].Name = name }}})
	}
	numbers := []int{math.MinInt, math.MinInt + 1, -8, -4, -2, math.MaxInt, 1 << 32}
	for n := range 20 {
		numbers = append(numbers, n-1)
	}
	for _, n := range numbers {
		word, every, phase := formatCase{part: 2, e: api.ErrRange}, formatCase{part: 2, e: api.ErrRange}, formatCase{part: 2, e: api.ErrRange}
		one := func(f *api.FrFormat) *api.FrChannel {
			f.Words, f.Depth, f.Channels = 3, 8, f.Channels[:1]
			f.Channels[0] = api.FrChannel{Name: "a", Word: 2, Every: 4, Phase: 0}
			return &f.Channels[0]
		}
		word.change = func(f *api.FrFormat) { one(f).Word = n }
		every.change = func(f *api.FrFormat) { one(f).Every = n }
		phase.change = func(f *api.FrFormat) { one(f).Phase = n }
		if n >= 0 && n < 3 {
			word.part, word.e = 0, api.OK
		}
		if n == 1 || n == 2 || n == 4 || n == 8 {
			every.part, every.e = 0, api.OK
		}
		if n >= 0 && n < 4 {
			phase.part, phase.e = 0, api.OK
		}
		runFormats(t, []formatCase{word, every, phase})
	}
}

// P9.1: channels that are in the same frame at the same Word.
func TestCheckShared(t *testing.T) {
	for every := 1; every <= 8; every *= 2 {
		for often := 1; often <= 8; often *= 2 {
			for phase := range every {
				for other := range often {
					x := formatCase{change: func(f *api.FrFormat) {
						f.Words, f.Depth = 2, 8
						f.Channels = []api.FrChannel{{Name: "z", Word: 0, Every: 1}, {Name: "a", Word: 1, Every: every, Phase: phase}, {Name: "b", Word: 1, Every: often, Phase: other}}
					}}
					if f := changed(x.change); meet(f.Channels[1], f.Channels[2]) {
						x.part, x.at, x.e = 2, 2, api.ErrArg
					}
					runFormats(t, []formatCase{x})
				}
			}
		}
	}
	runFormats(t, []formatCase{
		// With the first one, and not with the one before it.
		{func(f *api.FrFormat) {
			f.Channels = append(f.Channels, api.FrChannel{Name: "c", Every: 2, Phase: 0})
		}, 2, 2, api.ErrArg},
		// The same frames, but another word.
		{func(f *api.FrFormat) {
			f.Words = 2
			f.Channels = append(f.Channels, api.FrChannel{Name: "c", Word: 1, Every: 2, Phase: 0})
		}, 0, 0, api.OK},
	})
}

// P9.1: which error comes first.
func TestCheckOrder(t *testing.T) {
	runFormats(t, []formatCase{
		{func(f *api.FrFormat) { f.Sync, f.Words = "", 0 }, 1, 0, api.ErrLong},
		{func(f *api.FrFormat) { f.Channels, f.Depth = make([]api.FrChannel, 13), 3 }, 1, 0, api.ErrLong},
		{func(f *api.FrFormat) { f.Words, f.Channels[a].Name = 33, "" }, 1, 0, api.ErrRange},
		{func(f *api.FrFormat) { f.Depth, f.Channels[a].Name = 0, "" }, 1, 0, api.ErrRange},
		// The first channel with an error decides, not the first error.
		{func(f *api.FrFormat) { f.Channels[a].Phase, f.Channels[b].Name = 2, "" }, 2, a, api.ErrRange},
		{func(f *api.FrFormat) { f.Channels[a].Name, f.Channels[b].Name = "A", "A" }, 2, a, api.ErrForm},
		// Of the errors of one channel.
		{func(f *api.FrFormat) {
			f.Channels[a].Name, f.Channels[b] = "a", api.FrChannel{Name: "a", Word: -1}
		}, 2, b, api.ErrTwice},
		{func(f *api.FrFormat) { f.Channels[b] = api.FrChannel{Name: "a", Every: 2, Phase: 0} }, 2, b, api.ErrTwice},
		{func(f *api.FrFormat) { f.Channels[b] = api.FrChannel{Name: "-", Every: 0} }, 2, b, api.ErrForm},
		{func(f *api.FrFormat) { f.Channels[b] = api.FrChannel{Name: "b", Every: 2, Phase: 2} }, 2, b, api.ErrRange},
		{func(f *api.FrFormat) { f.Channels[b] = api.FrChannel{Name: "b", Every: 4, Phase: 0} }, 2, b, api.ErrRange},
		{func(f *api.FrFormat) { f.Channels[b] = api.FrChannel{Name: "b", Every: 1, Phase: 0} }, 2, b, api.ErrArg},
	})
}

// checkOf returns what Check returns, as it is read a second time: each error is looked for alone.
func checkOf(f api.FrFormat) (part, at int, e api.Errno) {
	if len(f.Sync) == 0 || len(f.Sync) > 4 || len(f.Channels) > 12 {
		return 1, 0, api.ErrLong
	}
	depths := map[int]bool{1: true, 2: true, 4: true, 8: true, 16: true}
	if f.Words < 1 || f.Words > 32 || !depths[f.Depth] {
		return 1, 0, api.ErrRange
	}
	for i, c := range f.Channels {
		form, twice := !wind.Name(c.Name), false
		fine := c.Word >= 0 && c.Word < f.Words && depths[c.Every] && c.Every <= f.Depth && c.Phase >= 0 && c.Phase < c.Every
		for _, x := range f.Channels[:i] {
			twice = twice || x.Name == c.Name
		}
		switch {
		case form:
			return 2, i, api.ErrForm
		case twice:
			return 2, i, api.ErrTwice
		case !fine:
			return 2, i, api.ErrRange
		}
		for _, x := range f.Channels[:i] {
			if meet(x, c) {
				return 2, i, api.ErrArg
			}
		}
	}
	return 0, 0, api.OK
}

// oddFormat returns a format in which some things are odd.
func oddFormat(r *rand.Rand) api.FrFormat {
	f := randomFormat(r)
	numbers := []*int{&f.Words, &f.Depth}
	for i := range f.Channels {
		c := &f.Channels[i]
		numbers = append(numbers, &c.Word, &c.Every, &c.Phase)
		if r.Intn(30) == 0 {
			c.Name = []string{"", "ca", "A"}[r.Intn(3)]
		}
		if r.Intn(30) == 0 {
			c.Word, c.Phase = r.Intn(max(f.Words, 1)), r.Intn(c.Every)
		}
	}
	if r.Intn(20) == 0 {
		f.Sync = []string{"", "AAAAA"}[r.Intn(2)]
	}
	change(r, numbers...)
	return f
}

// P9.1: as it is read a second time.
func TestCheckAgain(t *testing.T) {
	r := rand.New(rand.NewSource(901))
	errors := map[api.Errno]int{}
	for range 30000 {
		f := oddFormat(r)
		part, at, e := frame.Check(f)
		if wantPart, wantAt, want := checkOf(f); part != wantPart || at != wantAt || e != want {
			t.Fatalf("Check of %v = %d, %d, %d, and not %d, %d, %d", f, part, at, e, wantPart, wantAt, want)
		}
		errors[e]++
	}
	for _, e := range []api.Errno{api.OK, api.ErrLong, api.ErrRange, api.ErrForm, api.ErrTwice, api.ErrArg} {
		if errors[e] < 300 {
			t.Errorf("how often there is each error: %v", errors)
		}
	}
}
