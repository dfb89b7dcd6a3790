package officer_test

import (
	"math"
	"math/rand"
	"slices"
	"strings"
	"testing"

	"hangfire/api"
	"hangfire/officer"
)

func line(at, verb int, name string, numbers ...int) api.OfLine {
	return api.OfLine{At: at, Verb: verb, Name: name, Numbers: numbers}
}

// P12.2: lines, which are written as they are read.
func TestLines(t *testing.T) {
	long := "a" + strings.Repeat("b", 22) + "-"
	for _, c := range []struct {
		s string
		x api.OfLine
	}{
		{"at 1 sound mast 500 100 -20", line(1, api.OfSound, "mast", 500, 100, -20)},
		{"at 2 sight ferry -1 2 0 1000", line(2, api.OfSight, "ferry", -1, 2, 0, 1000)},
		{"at 0 aim", line(0, api.OfAim, "")},
		{"at 3 notice 7", line(3, api.OfNotice, "", 7)},
		{"at 3 notice -7", line(3, api.OfNotice, "", -7)},
		{"at 4 cancel 10000", line(4, api.OfCancel, "", 10000)},
		{"at 100000 begin launch", line(100000, api.OfBegin, "launch")},
		{"at 5 end launch", line(5, api.OfEnd, "launch")},
		{"at 6 hold", line(6, api.OfHold, "")},
		{"at 7 resume", line(7, api.OfResume, "")},
		{"at 8 go range", line(8, api.OfGo, "range")},
		{"at 9 nogo range", line(9, api.OfNoGo, "range")},
		{"at 10 recycle fill", line(10, api.OfRecycle, "fill")},
		{"at 99 charge main-2", line(99, api.OfCharge, "main-2")},
		{"at 11 person ann 1 0 -1", line(11, api.OfPerson, "ann", 1, 0, -1)},
		{"at 12 plot gps 0 0 1000", line(12, api.OfPlot, "gps", 0, 0, 1000)},
		{"at 13 clear", line(13, api.OfClear, "")},
		{"at 14 look", line(14, api.OfLook, "")},
		{"at 0 begin at", line(0, api.OfBegin, "at")},
		{"at 0 begin begin", line(0, api.OfBegin, "begin")},
		{"at 0 go " + long, line(0, api.OfGo, long)},
		{"at 0 cancel 1000000000000", line(0, api.OfCancel, "", 1000000000000)},
		{"at 0 cancel -1000000000000", line(0, api.OfCancel, "", -1000000000000)},
		{"at 100000 sight " + long + strings.Repeat(" -1000000000000", 4), line(100000, api.OfSight, long, slices.Repeat([]int{-1000000000000}, 4)...)},
	} {
		if x, e := officer.Parse(c.s); !same(x, c.x) || e != api.OK {
			t.Errorf("Parse of %q = %v, %d", c.s, x, e)
		}
		if s, e := officer.Text(c.x); s != c.s || e != api.OK {
			t.Errorf("Text of %v = %q, %d", c.x, s, e)
		}
	}
	if s, e := officer.Text(api.OfLine{Verb: api.OfLook, Numbers: []int{}}); s != "at 0 look" || e != api.OK {
		t.Errorf("Text = %q, %d", s, e)
	}
}

// P12.2: strings that are no lines.
func TestParseErrors(t *testing.T) {
	name := strings.Repeat("a", 25)
	tooLong := "at 0 cancel 1" + strings.Repeat("0", 107)
	for _, c := range []struct {
		s string
		e api.Errno
	}{
		{strings.Repeat("x", 121), api.ErrLong}, {"at 0 aim" + strings.Repeat(" ", 113), api.ErrLong}, {tooLong + "0", api.ErrLong}, {strings.Repeat("\n", 1000), api.ErrLong},
		{tooLong, api.ErrRange}, {strings.Repeat("x", 120), api.ErrForm}, {"at 0 aim" + strings.Repeat(" ", 112), api.ErrForm},
		{"", api.ErrForm}, {" ", api.ErrForm}, {"at", api.ErrForm}, {"at ", api.ErrForm}, {"at 0", api.ErrForm}, {"at 0 ", api.ErrForm}, {"at 0  ", api.ErrForm}, {"at aim", api.ErrForm}, {"0 aim", api.ErrForm},
		{" at 0 aim", api.ErrForm}, {"at 0 aim ", api.ErrForm}, {"at  0 aim", api.ErrForm}, {"at 0  aim", api.ErrForm}, {"at 0\taim", api.ErrForm}, {"at 0 aim\n", api.ErrForm}, {"\nat 0 aim", api.ErrForm}, {"at 0 aim\r", api.ErrForm},
		{"At 0 aim", api.ErrForm}, {"at 0 Aim", api.ErrForm}, {"on 0 aim", api.ErrForm}, {"at 0 aims", api.ErrForm}, {"at 0 ai", api.ErrForm}, {"at 0 launch", api.ErrForm},
		{"at 0 aim 1", api.ErrForm}, {"at 0 aim mast", api.ErrForm}, {"at 0 notice", api.ErrForm}, {"at 0 notice ", api.ErrForm}, {"at 0 notice 1 2", api.ErrForm}, {"at 0 notice x", api.ErrForm}, {"at 0 notice x 1", api.ErrForm},
		{"at 0 begin", api.ErrForm}, {"at 0 begin ", api.ErrForm}, {"at 0 begin a b", api.ErrForm}, {"at 0 begin a 1", api.ErrForm}, {"at 0 begin 1", api.ErrForm}, {"at 0 begin Fill", api.ErrForm}, {"at 0 begin " + name, api.ErrForm}, {"at 0 begin -", api.ErrForm},
		{"at 0 sound mast 1 2", api.ErrForm}, {"at 0 sound mast 1 2 3 4", api.ErrForm}, {"at 0 sound 1 2 3", api.ErrForm}, {"at 0 sound 1 2 3 4", api.ErrForm}, {"at 0 sound mast 1 2 x", api.ErrForm}, {"at 0 sight ferry 1 2 3", api.ErrForm}, {"at 0 sight ferry 1 2 3 4 5", api.ErrForm}, {"at 0 person ann 1 2", api.ErrForm}, {"at 0 plot gps 1 2 3 4", api.ErrForm}, {"at 0 clear 0", api.ErrForm},
		// numbers
		{"at 00 aim", api.ErrForm}, {"at 01 aim", api.ErrForm}, {"at +1 aim", api.ErrForm}, {"at -0 aim", api.ErrForm}, {"at - aim", api.ErrForm}, {"at --1 aim", api.ErrForm}, {"at 1. aim", api.ErrForm}, {"at 1_0 aim", api.ErrForm}, {"at 0x1 aim", api.ErrForm}, {"at 1e3 aim", api.ErrForm}, {"at x aim", api.ErrForm}, {"at \u0661 aim", api.ErrForm},
		{"at 8 cancel 07", api.ErrForm}, {"at 8 cancel -07", api.ErrForm}, {"at 8 cancel -0", api.ErrForm}, {"at 8 cancel +7", api.ErrForm}, {"at 8 cancel -", api.ErrForm}, {"at 8 cancel 7-", api.ErrForm}, {"at 8 cancel 7:", api.ErrForm}, {"at 8 cancel 7/", api.ErrForm},
		{"at -1 aim", api.ErrRange}, {"at 100001 aim", api.ErrRange}, {"at 99999999999999999999999 aim", api.ErrRange}, {"at -99999999999999999999999 aim", api.ErrRange}, {"at 0 cancel 1000000000001", api.ErrRange}, {"at 0 cancel -1000000000001", api.ErrRange}, {"at 0 cancel 9223372036854775808", api.ErrRange}, {"at 0 cancel -9223372036854775809", api.ErrRange}, {"at 0 cancel 18446744073709551617", api.ErrRange},
		{"at 0 sound mast 0 0 1000000000001", api.ErrRange}, {"at 0 sound mast 1000000000001 0 0", api.ErrRange},
		// A form that is not there comes first.
		{"at 100001 launch", api.ErrForm}, {"at -1 cancel 00", api.ErrForm}, {"at 0 sound mast 1000000000001 0", api.ErrForm}, {"at 0 sound mast 1000000000001 0 x", api.ErrForm}, {"at 999999 begin A", api.ErrForm},
	} {
		if x, e := officer.Parse(c.s); !isZero(x) || e != c.e {
			t.Errorf("Parse of %q = %v, %d, and not %d", c.s, x, e, c.e)
		}
		if answers, after := playOf(t, example(), []string{c.s}); answers[0] != "bad" || after.Now != 0 {
			t.Errorf("%q: %q", c.s, answers[0])
		}
	}
}

// P12.2: lines that are not written.
func TestTextErrors(t *testing.T) {
	for _, x := range []api.OfLine{
		{}, line(0, 18, ""), line(0, -1, ""), line(0, math.MaxInt, ""), line(0, math.MinInt, ""),
		line(-1, api.OfAim, ""), line(100001, api.OfAim, ""), line(math.MaxInt, api.OfAim, ""), line(math.MinInt, api.OfAim, ""),
		line(0, api.OfAim, "a"), line(0, api.OfAim, " "), line(0, api.OfAim, "", 0), line(0, api.OfAim, "", slices.Repeat([]int{7}, 100)...),
		line(0, api.OfNotice, ""), line(0, api.OfNotice, "", 1, 2), line(0, api.OfNotice, "5"), line(0, api.OfNotice, "x", 5), line(0, api.OfNotice, "", 1000000000001), line(0, api.OfCancel, "", -1000000000001), line(0, api.OfCancel, "", math.MinInt),
		line(0, api.OfBegin, ""), line(0, api.OfBegin, "A"), line(0, api.OfBegin, "a "), line(0, api.OfBegin, " a"), line(0, api.OfBegin, "a b"), line(0, api.OfBegin, "a\n"), line(0, api.OfBegin, strings.Repeat("a", 25)), line(0, api.OfBegin, strings.Repeat("a", 1000)), line(0, api.OfBegin, "a", 0), line(0, api.OfBegin, "\xff"),
		line(0, api.OfSound, "", 1, 2, 3), line(0, api.OfSound, "mast", 1, 2), line(0, api.OfSound, "mast", 1, 2, 3, 4), line(0, api.OfSound, "mast 1", 2, 3), line(0, api.OfSound, "mast 1 2 3"), line(0, api.OfSound, "5", 1, 2, 3), line(0, api.OfSight, "ferry", 1, 2, 3), line(0, api.OfSight, "ferry", 1, 2, 3, 1000000000001),
	} {
		if s, e := officer.Text(x); s != "" || e != api.ErrArg {
			t.Errorf("Text of %v = %q, %d", x, s, e)
		}
	}
}

// P12.11: T9, lines
func TestReadAndWritten(t *testing.T) {
	r := rand.New(rand.NewSource(1211))
	read1, written := 0, 0
	for range 15000 {
		s := randomLine(r, r.Intn(1000))
		x, e := officer.Parse(s)
		if e == api.OK {
			read1++
			if again, e := officer.Text(x); again != s || e != api.OK {
				t.Fatalf("Text of %v = %q, %d, and not %q", x, again, e, s)
			}
		}
		if y, f := read(s); !same(x, y) || e != f {
			t.Fatalf("Parse of %q = %v, %d, and not %v, %d", s, x, e, y, f)
		}
		y := line(pick(r, 0, r.Intn(100001), odd(r)), r.Intn(20), pick(r, "", "", "a", "a-1", "A", "a b"))
		for range r.Intn(5) {
			y.Numbers = append(y.Numbers, odd(r))
		}
		s, e = officer.Text(y)
		if e != api.OK {
			continue
		}
		written++
		if z, e := officer.Parse(s); !same(z, y) || e != api.OK {
			t.Fatalf("Parse of %q = %v, %d, and not %v", s, z, e, y)
		}
	}
	if read1 < 5000 || written < 500 {
		t.Errorf("%d are read, %d are written", read1, written)
	}
}

// P12.2: a string of any bytes is a line, or is none, as in the second reading.
func TestAnyStrings(t *testing.T) {
	r := rand.New(rand.NewSource(1202))
	lines := 0
	for range 30000 {
		b := []byte(randomLine(r, r.Intn(1000)))
		for range r.Intn(3) {
			i := r.Intn(len(b))
			switch r.Intn(3) {
			case 0:
				b[i] = pick(r, ' ', '-', '0', '9', 'a', 'z', 'A', '/', ':', '`', '{', '\n', byte(r.Intn(256)))
			case 1:
				b = slices.Insert(b, i, pick(r, []byte(" -01a")...))
			default:
				b = slices.Delete(b, i, min(i+1+r.Intn(2), len(b)-1))
			}
		}
		x, e := officer.Parse(string(b))
		if y, f := read(string(b)); !same(x, y) || e != f {
			t.Fatalf("Parse of %q = %v, %d, and not %v, %d", b, x, e, y, f)
		}
		if e == api.OK {
			lines++
		}
	}
	if lines < 5000 {
		t.Errorf("%d lines", lines)
	}
}
