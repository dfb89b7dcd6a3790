package window_test

import (
	"slices"
	"testing"

	"hangfire/api"
	"hangfire/window"
)

// threeNights are those of the example of Season.
func threeNights() []api.WiNight {
	return []api.WiNight{night(skyA(), launched(160)), night(skyA(), launched(130)), night(skyA(), launched(60))}
}

// The examples of Season.
func TestExampleSeason(t *testing.T) {
	uses, after := seasonOf(t, example(), threeNights())
	if want := []api.WiUse{use(0, south, 160, none), use(1, north, 130, none), use(2, south, 60, none)}; !slices.Equal(uses, want) {
		t.Errorf("Season = %v", uses)
	}
	// North has a right to the third window when the turn of south begins, and guest to the second one.
	if want := (api.WiState{Used: []int{1, 2, 0}, Credit: []int{7, 3, 2}, Last: []int{2, 4, none}, Next: 3}); !sameState(after, want) {
		t.Errorf("Season = %v", after)
	}
	uses, after = seasonOf(t, example(), threeNights()[:2])
	if want := (api.WiState{Used: []int{1, 1, 0}, Credit: []int{6, 8, 2}, Last: []int{2, 1, none}, Next: 2}); len(uses) != 2 || !sameState(after, want) {
		t.Errorf("Season = %v, %v", uses, after)
	}
	uses, after = seasonOf(t, example(), []api.WiNight{night(skyB(), scrubbed(390))})
	if want := with(func(s *api.WiState) { s.Next = 1 }); len(uses) != 0 || !sameState(after, want) {
		t.Errorf("Season = %v, %v", uses, after)
	}
	uses, after = seasonOf(t, example(), nil)
	if len(uses) != 0 || !sameState(after, first()) {
		t.Errorf("Season = %v, %v", uses, after)
	}
}

// P11.5: windows that are not used are left out.
func TestSeasonUnused(t *testing.T) {
	l := threeNights()
	l[1].Turns = turns(scrubbed(200))
	uses, after := seasonOf(t, example(), l)
	if want := []api.WiUse{use(0, south, 160, none), use(2, north, 60, none)}; !slices.Equal(uses, want) {
		t.Errorf("Season = %v", uses)
	}
	if want := (api.WiState{Used: []int{1, 1, 0}, Credit: []int{6, 8, 1}, Last: []int{4, 1, none}, Next: 3}); !sameState(after, want) {
		t.Errorf("Season = %v", after)
	}
}

// P11.5: errors of seasons, which Audit has as well.
func TestSeasonErrors(t *testing.T) {
	bad := func(l ...api.WiNight) []api.WiNight { return l }
	ok := night(skyA(), launched(160))
	for i, c := range []struct {
		l []api.WiNight
		e api.Errno
	}{
		{threeNights(), api.OK},
		{append(threeNights(), night(skyA())), api.ErrLong},
		{make([]api.WiNight, 4), api.ErrLong},
		{bad(night(api.WiSky{Wind: -1})), api.ErrArg},
		{bad(ok, night(api.WiSky{Kinds: []int{10}})), api.ErrArg},
		{bad(ok, night(skyA(), slices.Repeat(turns(scrubbed(-1)), 17)...)), api.ErrLong},
		{bad(ok, night(skyA(), scrubbed(100))), api.ErrArg},
		{bad(ok, night(skyA(), given(100, north))), api.ErrNone},
		{bad(ok, night(skyA(), launched(129)), night(skyA(), launched(1))), api.ErrRange},
		{bad(ok, night(skyA(), launched(130), launched(160))), api.ErrDown},
		{bad(ok, night(skyA(), given(100, south), given(100, guest))), api.ErrTwice},
		{bad(night(skyA(), launched(159)), night(api.WiSky{Wind: -1})), api.ErrRange},
	} {
		uses, after, e := window.Season(example(), c.l)
		if e != c.e || e != api.OK && (len(uses) != 0 || !isZero(after)) {
			t.Errorf("%d: Season = %v, %v, %d, and not %d", i, uses, after, e, c.e)
		}
		if at, e := window.Audit(example(), c.l, nil); e != c.e || e != api.OK && at != 0 {
			t.Errorf("%d: Audit = %d, %d, and not %d", i, at, e, c.e)
		}
	}
}

// P11.6
func TestAudit(t *testing.T) {
	uses, _ := seasonOf(t, example(), threeNights())
	other := use(1, north, 131, none)
	for i, c := range []struct {
		l  []api.WiUse
		at int
	}{
		{uses, none},
		{nil, 0},
		{uses[:1], 1},
		{uses[:2], 2},
		{append(slices.Clone(uses), other), 3},
		{append(slices.Clone(uses), use(0, 0, 0, 0)), 3},
		{append(slices.Clone(uses), uses[2], uses[2]), 3},
		{uses[1:], 0},
		{[]api.WiUse{uses[0], uses[2]}, 1},
		{[]api.WiUse{uses[0], other, uses[2]}, 1},
		{[]api.WiUse{uses[0], other}, 1},
		{[]api.WiUse{uses[0], other, uses[2], other}, 1},
		{[]api.WiUse{uses[0], uses[0], uses[1], uses[2]}, 1},
		{[]api.WiUse{uses[1], uses[0], uses[2]}, 0},
	} {
		if at, e := window.Audit(example(), threeNights(), c.l); at != c.at || e != api.OK {
			t.Errorf("%d: Audit of %v = %d, %d, and not %d", i, c.l, at, e, c.at)
		}
	}
	for i, c := range []struct {
		nights []api.WiNight
		l      []api.WiUse
		at     int
	}{
		{nil, nil, none},
		{nil, uses, 0},
		{[]api.WiNight{night(skyB(), scrubbed(390))}, nil, none},
		{[]api.WiNight{night(skyB(), scrubbed(390))}, []api.WiUse{use(0, none, 0, none)}, 0},
		{threeNights()[:2], uses, 2},
	} {
		if at, e := window.Audit(example(), c.nights, c.l); at != c.at || e != api.OK {
			t.Errorf("%d: Audit of %v = %d, %d, and not %d", i, c.l, at, e, c.at)
		}
	}
}
