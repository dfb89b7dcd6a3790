package hazard_test

import (
	"math"
	"slices"
	"strconv"
	"strings"
	"testing"

	"hangfire/api"
	"hangfire/hazard"
)

// P4.7
func TestNotice(t *testing.T) {
	for i, c := range []struct {
		x                     api.FlImpact
		number, margin, slack int
		s                     string
		e                     api.Errno
	}{
		{splash(), 17, 500000, 100, "NOTICE 17 FROM 120 UNTIL 360 X -1 1 Y -1 1", api.OK},
		{splash(), 1, 0, 0, "NOTICE 1 FROM 220 UNTIL 260 X 0 1 Y 0 0", api.OK},
		{splash(), 9999, 60000, 220, "NOTICE 9999 FROM 0 UNTIL 480 X 0 1 Y -1 1", api.OK},
		{splash(), 2, 60001, 221, "NOTICE 2 FROM 0 UNTIL 481 X -1 1 Y -1 1", api.OK},
		{splash(), 2, 930000, 100000, "NOTICE 2 FROM 0 UNTIL 100000 X -1 1 Y -1 1", api.OK},
		{splash(), 2, 930001, 99740, "NOTICE 2 FROM 0 UNTIL 100000 X -1 2 Y -1 1", api.OK},
		{impact(area(0, 0, 0, 0), 99999, 100000), 3, 0, 1, "NOTICE 3 FROM 99998 UNTIL 100000 X 0 0 Y 0 0", api.OK},
		{impact(area(1, 1, -1, -1), 0, 0), 3, 0, 0, "NOTICE 3 FROM 0 UNTIL 0 X 0 1 Y -1 0", api.OK},
		{impact(area(-999999, -1, -1000000, 1000000), 5, 6), 3, 0, 0, "NOTICE 3 FROM 5 UNTIL 6 X -1 0 Y -1 1", api.OK},
		{impact(area(-1000001, -1000000, 1000000, 1000001), 5, 6), 3, 0, 0, "NOTICE 3 FROM 5 UNTIL 6 X -2 -1 Y 1 2", api.OK},
		{impact(area(-1500000, -1500000, 1500000, 1500000), 5, 6), 3, 500000, 0, "NOTICE 3 FROM 5 UNTIL 6 X -2 -1 Y 1 2", api.OK},
		// As wide as it can be.
		{impact(area(-1000000000, 1000000000, -1000000000, 1000000000), 5, 6), 3, 2000000000, 0, "NOTICE 3 FROM 5 UNTIL 6 X -3000 3000 Y -3000 3000", api.OK},
		{impact(area(-1000000001, 0, 0, 0), 5, 6), 3, 2000000000, 0, "", api.ErrLong},
		{impact(area(0, 1000000001, 0, 0), 5, 6), 3, 2000000000, 0, "", api.ErrLong},
		{impact(area(0, 0, -1000000001, 0), 5, 6), 3, 2000000000, 0, "", api.ErrLong},
		{impact(area(0, 0, 0, 1000000001), 5, 6), 3, 2000000000, 0, "", api.ErrLong},
		{impact(area(-2000000000, 2000000000, -2000000000, 2000000000), 5, 6), 3, 1000000000, 0, "NOTICE 3 FROM 5 UNTIL 6 X -3000 3000 Y -3000 3000", api.OK},
		{impact(area(-2000000000, 2000000000, -2000000000, 2000000000), 5, 6), 3, 1000000001, 0, "", api.ErrLong},
		{impact(area(2000000000, 2000000000, 2000000000, 2000000000), 5, 6), 3, 1000000001, 0, "", api.ErrLong},
		{splash(), 0, 0, 0, "", api.ErrRange}, {splash(), 10000, 0, 0, "", api.ErrRange}, {splash(), -1, 0, 0, "", api.ErrRange}, {splash(), math.MaxInt, 0, 0, "", api.ErrRange}, {splash(), math.MinInt, 0, 0, "", api.ErrRange},
		{splash(), 1, -1, 0, "", api.ErrRange}, {splash(), 1, 2000000000, 0, "NOTICE 1 FROM 220 UNTIL 260 X -2000 2001 Y -2000 2000", api.OK}, {splash(), 1, 2000000001, 0, "", api.ErrRange}, {splash(), 1, math.MaxInt, 0, "", api.ErrRange}, {splash(), 1, math.MinInt, 0, "", api.ErrRange},
		{splash(), 1, 0, -1, "", api.ErrRange}, {splash(), 1, 0, 100001, "", api.ErrRange}, {splash(), 1, 0, math.MaxInt, "", api.ErrRange}, {splash(), 1, 0, math.MinInt, "", api.ErrRange},
		{api.FlImpact{Piece: -1}, 1, 0, 0, "", api.ErrRange},
		{impact(area(0, 1000000001, 0, 0), 5, 6), 3, 2000000000, -1, "", api.ErrRange},
	} {
		if s, e := hazard.Notice(c.x, c.number, c.margin, c.slack); s != c.s || e != c.e {
			t.Errorf("%d: Notice = %q, %d", i, s, e)
		}
	}
}

// P4.7
func TestParse(t *testing.T) {
	for _, c := range []struct {
		s string
		x api.HzNotice
	}{
		{"NOTICE 17 FROM 120 UNTIL 360 X -1 1 Y -1 1", api.HzNotice{Number: 17, From: 120, Until: 360, X: span(-1, 1), Y: span(-1, 1)}},
		{"NOTICE 1 FROM 0 UNTIL 0 X 0 0 Y 0 0", api.HzNotice{Number: 1}},
		{"NOTICE 9999 FROM 100000 UNTIL 100000 X -3000 3000 Y -20 -10", api.HzNotice{Number: 9999, From: 100000, Until: 100000, X: span(-3000, 3000), Y: span(-20, -10)}},
		{"NOTICE 2 FROM 3 UNTIL 4 X 5 6 Y 7 8", api.HzNotice{Number: 2, From: 3, Until: 4, X: span(5, 6), Y: span(7, 8)}},
		{"NOTICE 2 FROM 3 UNTIL 4 X 5 5 Y -3000 -3000", api.HzNotice{Number: 2, From: 3, Until: 4, X: span(5, 5), Y: span(-3000, -3000)}},
		{"CANCEL 17", api.HzNotice{Number: 17, Cancel: true}},
		{"CANCEL 1", api.HzNotice{Number: 1, Cancel: true}},
		{"CANCEL 9999", api.HzNotice{Number: 9999, Cancel: true}},
	} {
		if x, e := hazard.Parse(c.s); x != c.x || e != api.OK {
			t.Errorf("Parse of %q = %v, %d", c.s, x, e)
		}
	}
}

const huge = "123456789012345678901234567890"

// P4.7: numbers that are not as stated.
func TestParseRange(t *testing.T) {
	l := []string{"CANCEL 0", "CANCEL 10000", "CANCEL " + huge}
	right := strings.Fields("NOTICE 17 FROM 120 UNTIL 360 X -3 3 Y -5 5")
	for at, wrong := range map[int][]string{
		1:  {"0", "10000", huge},
		3:  {"361", "100001", huge},
		5:  {"119", "100001", huge, "9223372036854775808", "18446744073709551616"},
		7:  {"-3001", "4", "-" + huge, huge},
		8:  {"3001", "-4", "-" + huge, huge},
		10: {"-3001", "6", "-" + huge, huge, "-9223372036854775808", "-9223372036854775809"},
		11: {"3001", "-6", "-" + huge, huge},
	} {
		for _, word := range wrong {
			words := slices.Clone(right)
			words[at] = word
			l = append(l, strings.Join(words, " "))
		}
	}
	l = append(l, "NOTICE 17 FROM 100001 UNTIL 100001 X 0 0 Y 0 0", "NOTICE 17 FROM 0 UNTIL 0 X 3001 3001 Y 0 0", "NOTICE 17 FROM 0 UNTIL 0 X 0 0 Y -3001 -3001", "NOTICE 0 FROM 9 UNTIL 8 X 1 0 Y 1 0")
	for _, s := range l {
		if x, e := hazard.Parse(s); x != (api.HzNotice{}) || e != api.ErrRange {
			t.Errorf("Parse of %q = %v, %d", s, x, e)
		}
	}
}

// P4.7: strings of neither form, also if a number is not as stated.
func TestParseForm(t *testing.T) {
	l := []string{
		"", " ", "NOTICE", "CANCEL", "CANCEL ", "CANCEL  17", " CANCEL 17", "CANCEL 17 ", "CANCEL 17 17", "CANCEL17", "CANCELS 17", "cancel 17", "CANCEL -17", "CANCEL -0", "CANCEL +17", "CANCEL 017", "CANCEL 00",
		"CANCEL\t17", "CANCEL 17\n", "CANCEL 1_7", "CANCEL 1e3", "CANCEL 0x1", "CANCEL x", "CANCEL 1\x00", "CANCEL \xd9\xa1", "CANCEL 0 0", "CANCEL 017" + huge, "CANCEL 12345678901234567890x", "X", "\xff", "ANCEL 17", "NOTICE 17",
		"CANCEL 17 FROM 120 UNTIL 360 X -1 1 Y -1 1",
	}
	// Each word of a notice is another one, is missing, or there twice.
	right := strings.Fields("NOTICE 17 FROM 120 UNTIL 360 X -3 3 Y -5 5")
	for i, word := range right {
		others := []string{"", " ", word + " ", " " + word, word + "x", "x", "0" + word, "+" + word, word + " " + word, word + "\t", "--1", "-", "-0", "-01", "00", "1-", "1.0", strings.ToLower(word) + "."}
		if i == 1 || i == 3 || i == 5 {
			others = append(others, "-"+word, "-1")
		}
		for _, other := range others {
			l = append(l, strings.Join(slices.Replace(slices.Clone(right), i, i+1, other), " "))
		}
		l = append(l, strings.Join(slices.Delete(slices.Clone(right), i, i+1), " "))
		l = append(l, strings.Join(slices.Replace(slices.Clone(right), i, i+1, "FROMX"), " "))
	}
	whole := strings.Join(right, " ")
	l = append(l, whole+" ", " "+whole, whole+" 1", whole+"\n", strings.ToLower(whole), strings.ReplaceAll(whole, " ", "  "), strings.Repeat(whole+" ", 1000), strings.Repeat(" ", 100000), "NOTICE "+strings.Repeat("9", 100000),
		"NOTICE 0 FROM 120 UNTIL 360 X -3 3 Y -5 05", "NOTICE 17 FROM 360 UNTIL 120 X -3 3 Y -5", "NOTICE "+huge+" FROM 120 UNTIL 360 X -3 3 Y -5 -0")
	for _, s := range l {
		if x, e := hazard.Parse(s); x != (api.HzNotice{}) || e != api.ErrForm {
			t.Errorf("Parse of %q = %v, %d", s, x, e)
		}
	}
}

// about returns a notice with a number, at some ticks, for spans of km that are the same for X and Y.
func about(number, from, until, lo, hi int) string {
	km := strconv.Itoa(lo) + " " + strconv.Itoa(hi)
	return "NOTICE " + strconv.Itoa(number) + " FROM " + strconv.Itoa(from) + " UNTIL " + strconv.Itoa(until) + " X " + km + " Y " + km
}

// noticeOf is what about returns, read.
func noticeOf(number, from, until, lo, hi int) api.HzNotice {
	return api.HzNotice{Number: number, From: from, Until: until, X: span(lo, hi), Y: span(lo, hi)}
}

// P4.8
func TestForce(t *testing.T) {
	three := []string{about(30, 100, 200, 0, 1), about(4, 150, 300, 2, 3), about(17, 0, 150, 4, 5)}
	n30, n4, n17 := noticeOf(30, 100, 200, 0, 1), noticeOf(4, 150, 300, 2, 3), noticeOf(17, 0, 150, 4, 5)
	again := append(slices.Clone(three), about(30, 500, 600, 6, 7))
	back := append(slices.Clone(three), "CANCEL 30", about(30, 0, 9, 6, 7), "CANCEL 17")
	for i, c := range []struct {
		l    []string
		tick int
		want []api.HzNotice
	}{
		{nil, 0, nil}, {[]string{}, 100000, nil},
		{[]string{"NOTICE 17 FROM 120 UNTIL 360 X -1 1 Y -1 1", "CANCEL 17"}, 200, nil},
		{[]string{"NOTICE 17 FROM 120 UNTIL 360 X -1 1 Y -1 1"}, 200, []api.HzNotice{noticeOf(17, 120, 360, -1, 1)}},
		{three, 150, []api.HzNotice{n4, n17, n30}}, {three, 0, []api.HzNotice{n17}}, {three, 99, []api.HzNotice{n17}}, {three, 100, []api.HzNotice{n17, n30}}, {three, 151, []api.HzNotice{n4, n30}}, {three, 200, []api.HzNotice{n4, n30}},
		{three, 201, []api.HzNotice{n4}}, {three, 300, []api.HzNotice{n4}}, {three, 301, nil},
		// In place of one with the same number.
		{again, 150, []api.HzNotice{n4, n17}}, {again, 550, []api.HzNotice{noticeOf(30, 500, 600, 6, 7)}},
		{back, 150, []api.HzNotice{n4}}, {back, 5, []api.HzNotice{noticeOf(30, 0, 9, 6, 7)}},
	} {
		if l, e := hazard.Force(c.l, c.tick); !slices.Equal(l, c.want) || e != api.OK {
			t.Errorf("%d: Force = %v, %d", i, l, e)
		}
	}
}

// P4.8
func TestCovers(t *testing.T) {
	x := impact(area(1000000, 2000000, 1000000, 2000000), 100, 200)
	for i, c := range []struct {
		l    []string
		want int
	}{
		{nil, 0},
		{[]string{about(9, 100, 200, 1, 2)}, 9},
		{[]string{about(9, 0, 100000, -3000, 3000)}, 9},
		{[]string{about(9, 101, 200, 1, 2)}, 0},
		{[]string{about(9, 100, 199, 1, 2)}, 0},
		{[]string{about(9, 100, 200, 2, 2)}, 0},
		{[]string{about(9, 100, 200, 1, 1)}, 0},
		{[]string{"NOTICE 9 FROM 100 UNTIL 200 X 1 2 Y 2 2"}, 0},
		{[]string{"NOTICE 9 FROM 100 UNTIL 200 X 1 2 Y 1 1"}, 0},
		{[]string{"NOTICE 9 FROM 100 UNTIL 200 X 2 3 Y 1 2"}, 0},
		{[]string{"NOTICE 9 FROM 100 UNTIL 200 X 1 1 Y 1 2"}, 0},
		{[]string{"NOTICE 9 FROM 100 UNTIL 200 X 1 3 Y 0 2"}, 9},
		// The least number, not the first string; several of them together do not cover anything.
		{[]string{about(9, 100, 200, 1, 2), about(7, 100, 200, 0, 2), about(8, 0, 200, 0, 2)}, 7},
		{[]string{about(9, 100, 200, 1, 2), about(7, 100, 200, 2, 2)}, 9},
		{[]string{about(9, 100, 150, 1, 2), about(7, 150, 200, 1, 2)}, 0},
		// In force behind all strings.
		{[]string{about(9, 100, 200, 1, 2), "CANCEL 9"}, 0},
		{[]string{about(9, 100, 200, 1, 2), about(9, 100, 199, 1, 2)}, 0},
		{[]string{about(9, 100, 199, 1, 2), about(9, 100, 200, 1, 2)}, 9},
		{[]string{about(9, 100, 200, 1, 2), about(12, 100, 200, 1, 2), "CANCEL 9"}, 12},
	} {
		if n, e := hazard.Covers(c.l, x); n != c.want || e != api.OK {
			t.Errorf("%d: Covers = %d, %d", i, n, e)
		}
	}
	for _, c := range []struct {
		x    api.FlImpact
		want int
	}{
		{splash(), 17}, {impact(area(999999, 1000000, 0, 0), 220, 260), 17}, {impact(area(999999, 1000001, 0, 0), 220, 260), 0}, {impact(area(-1000000, 0, -1000000, 0), 120, 360), 17}, {impact(area(-1000001, 0, 0, 0), 120, 360), 0},
		{impact(area(0, 0, -1000001, 0), 120, 360), 0}, {impact(area(0, 0, 0, 1000001), 120, 360), 0}, {impact(area(0, 0, 0, 0), 119, 360), 0}, {impact(area(0, 0, 0, 0), 120, 361), 0}, {impact(area(0, 0, 0, 0), 400, 500), 0},
	} {
		if n, e := hazard.Covers([]string{"NOTICE 17 FROM 120 UNTIL 360 X -1 1 Y -1 1"}, c.x); n != c.want || e != api.OK {
			t.Errorf("Covers of %v = %d, %d", c.x, n, e)
		}
	}
}

// P4.8
func TestForceErrors(t *testing.T) {
	good := about(9, 100, 200, 1, 2)
	many := func(n int) []string { return slices.Repeat([]string{good}, n) }
	for i, c := range []struct {
		l []string
		e api.Errno
	}{
		{many(60), api.OK}, {many(61), api.ErrLong}, {make([]string, 61), api.ErrLong},
		{[]string{""}, api.ErrForm}, {[]string{good, "CANCEL 09"}, api.ErrForm}, {[]string{about(9, 100, 99, 1, 2)}, api.ErrRange}, {[]string{good, "CANCEL 10000"}, api.ErrRange},
		{[]string{"CANCEL 9"}, api.ErrNone}, {[]string{good, "CANCEL 8"}, api.ErrNone}, {[]string{"CANCEL 9", good}, api.ErrNone}, {[]string{good, "CANCEL 9", "CANCEL 9"}, api.ErrNone}, {[]string{good, "CANCEL 9", good, "CANCEL 9"}, api.OK},
		// The first string with an error decides.
		{[]string{"CANCEL 9", ""}, api.ErrNone}, {[]string{"", "CANCEL 9"}, api.ErrForm}, {[]string{good, "CANCEL 0", "", "CANCEL 8"}, api.ErrRange}, {[]string{good, "CANCEL 9", "CANCEL 9", ""}, api.ErrNone},
	} {
		force, e1 := hazard.Force(c.l, 300)
		n, e2 := hazard.Covers(c.l, splash())
		if e1 != c.e || e2 != c.e || len(force) > 0 || n != 0 {
			t.Errorf("%d: Force = %v, %d; Covers = %d, %d", i, force, e1, n, e2)
		}
		want := c.e
		if want == api.OK {
			want = api.ErrRange
		}
		for _, tick := range []int{-1, 100001, math.MinInt, math.MaxInt} {
			if l, e := hazard.Force(c.l, tick); len(l) > 0 || e != want {
				t.Errorf("%d: Force at %d = %v, %d", i, tick, l, e)
			}
		}
		if n, e := hazard.Covers(c.l, api.FlImpact{Piece: -1}); n != 0 || e != want {
			t.Errorf("%d: Covers = %d, %d", i, n, e)
		}
	}
}
