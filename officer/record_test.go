package officer_test

import (
	"math/rand"
	"slices"
	"strings"
	"testing"

	"hangfire/api"
	"hangfire/officer"
)

// recordOf returns what Record does, without an error.
func recordOf(t *testing.T, s api.OfSetup, lines []string) string {
	t.Helper()
	record, e := officer.Record(s, lines)
	if e != api.OK {
		t.Fatalf("Record of %q = %d", lines, e)
	}
	return record
}

// replayOf returns what Replay does, without an error.
func replayOf(t *testing.T, s api.OfSetup, record string) int {
	t.Helper()
	at, e := officer.Replay(s, record)
	if e != api.OK {
		t.Fatalf("Replay of %q = %d", record, e)
	}
	return at
}

// P12.5: the record of the example, of nothing, and of strings that are no lines.
func TestRecord(t *testing.T) {
	var want strings.Builder
	for _, s := range exampleScript() {
		line, answer, _ := strings.Cut(s, " > ")
		want.WriteString(line + "\n> " + answer + "\n")
	}
	record := recordOf(t, example(), linesOf(exampleScript()))
	if record != want.String() {
		t.Errorf("%q", record)
	}
	if at := replayOf(t, example(), record); at != none {
		t.Errorf("%d", at)
	}
	// A desk with another source answers something else to the first line that names it.
	if at := replayOf(t, changed(example(), func(s *api.OfSetup) { s.Wind.Sources[0].Name = "tower" }), record); at != 2 {
		t.Errorf("%d", at)
	}
	for _, c := range []struct {
		lines []string
		want  string
	}{
		{nil, ""},
		{[]string{""}, "\n> bad\n"},
		{[]string{"", "> ", "> bad", "\r", "at 0 aim"}, "\n> bad\n> \n> bad\n> bad\n> bad\n\r\n> bad\nat 0 aim\n> ok 0\n"},
	} {
		record := recordOf(t, example(), c.lines)
		if at := replayOf(t, example(), c.want); record != c.want || at != none {
			t.Errorf("%q: %q, %d", c.lines, record, at)
		}
	}
}

// P12.5: lines that have no record.
func TestRecordErrors(t *testing.T) {
	for i, c := range []struct {
		lines []string
		e     api.Errno
	}{
		{[]string{"\n"}, api.ErrForm},
		{[]string{"at 0 aim", "at 0 aim\n"}, api.ErrForm},
		{[]string{"at 0 aim", "\nat 0 aim", ""}, api.ErrForm},
		{[]string{"at 0\naim"}, api.ErrForm},
		{make([]string, 120), api.OK},
		{make([]string, 121), api.ErrLong},
		{append(make([]string, 120), "\n"), api.ErrLong},
		{append(make([]string, 119), "\n"), api.ErrForm},
	} {
		record, e := officer.Record(example(), c.lines)
		if e != c.e || (e == api.OK) != (record != "") {
			t.Errorf("%d: %q, %d, and not %d", i, record, e, c.e)
		}
	}
	// For a desk what has a line feed is only no line.
	follow(t, example(), "\n > bad", "at 0 aim\n > bad")
}

// P12.5: Replay
func TestReplay(t *testing.T) {
	entry := "at 0 aim\n> ok 0\n"
	for i, c := range []struct {
		record string
		at     int
		e      api.Errno
	}{
		{"", none, api.OK},
		{entry, none, api.OK},
		{"at 0 aim\n> ok 1\n", 0, api.OK},
		{"at 0 aim\n> ok\n", 0, api.OK},
		{"at 0 aim\n> \n", 0, api.OK},
		{"at 0 aim\n>  ok 0\n", 0, api.OK},
		{"at 0 aim\n> ok 0 \n", 0, api.OK},
		{"at 0 aim\n> OK 0\n", 0, api.OK},
		{"at 0 aim\n> > ok 0\n", 0, api.OK},
		{"at 0 aim\n> ok 0\r\n", 0, api.OK},
		{entry + "at 0 clear\n> clear\n" + "x\n> no\n", 1, api.OK},
		{entry + "at 0 clear\n> unsafe 7\n" + "x\n> no\n", 2, api.OK},
		{entry + "at 0 clear\n> unsafe 7\n" + "x\n> bad\n", none, api.OK},
		{strings.Repeat(entry, 120), none, api.OK},
		{strings.Repeat(entry, 119) + "at 0 aim\n> ok 1\n", 119, api.OK},
		{strings.Repeat(entry, 121), 0, api.ErrLong},
		{"\n> no\n" + strings.Repeat(entry, 120), 0, api.ErrLong},
		{strings.Repeat(entry, 121) + "x", 0, api.ErrForm},
		{"\n", 0, api.ErrForm},
		{"x", 0, api.ErrForm},
		{"x\n", 0, api.ErrForm},
		{"x\n\n", 0, api.ErrForm},
		{"x\n>\n", 0, api.ErrForm},
		{"x\n>bad\n", 0, api.ErrForm},
		{"x\n bad\n", 0, api.ErrForm},
		{"x\nbad\n", 0, api.ErrForm},
		{"x\n > bad\n", 0, api.ErrForm},
		{"x\n> bad", 0, api.ErrForm},
		{"x\n> bad\n\n", 0, api.ErrForm},
		{"x\n> bad\nx", 0, api.ErrForm},
		{"x\n> bad\nx\n", 0, api.ErrForm},
		{"x\n> bad\nx\n>", 0, api.ErrForm},
		{"x\ny\n> bad\n", 0, api.ErrForm},
		{"> bad\n", 0, api.ErrForm},
		{"> bad\n> bad\n", none, api.OK},
	} {
		if at, e := officer.Replay(example(), c.record); at != c.at || e != c.e {
			t.Errorf("%d: %d, %d, and not %d, %d", i, at, e, c.at, c.e)
		}
	}
}

// P12.9: T9, again
func TestReplayed(t *testing.T) {
	r := rand.New(rand.NewSource(1209))
	for range 150 {
		s, lines := randomRange(r), randomPlay(r)
		record := recordOf(t, s, lines)
		if at := replayOf(t, s, record); at != none {
			t.Fatalf("%d in %q", at, record)
		}
		answers, _ := playOf(t, s, lines)
		l := strings.Split(record, "\n")
		if len(l) != 2*len(lines)+1 {
			t.Fatalf("%q", record)
		}
		i := r.Intn(len(lines))
		l[2*i+1] = "> " + pick(r, "", "x", "ok ", "bad", "no 0", "unsafe 8", answers[r.Intn(len(answers))], answers[i]+"0")
		want := none
		if l[2*i+1] != "> "+answers[i] {
			want = i
		}
		if at := replayOf(t, s, strings.Join(l, "\n")); at != want {
			t.Fatalf("%d, and not %d, with %q in %q", at, want, l[2*i+1], record)
		}
		// Lines that are not those of the record.
		if cut := slices.Delete(slices.Clone(l), 0, 2*i); replayOf(t, s, strings.Join(cut, "\n")) == none && i > 0 && want != none {
			t.Fatalf("%q", cut)
		}
	}
}
