package officer_test

import (
	"fmt"
	"math/rand"
	"reflect"
	"slices"
	"strings"
	"testing"

	"hangfire/aim"
	"hangfire/api"
	"hangfire/destruct"
	"hangfire/flight"
	"hangfire/hazard"
	"hangfire/officer"
	"hangfire/pad"
	"hangfire/wind"
)

// eachPlay plays random lines of random ranges, and tells of each play what is played, and what is answered.
func eachPlay(t *testing.T, seed int64, plays int, tell func(s api.OfSetup, lines, answers []string, after api.OfState)) {
	t.Helper()
	r := rand.New(rand.NewSource(seed))
	for range plays {
		s, lines := randomRange(r), randomPlay(r)
		answers, after := playOf(t, s, lines)
		tell(s, lines, answers, after)
	}
}

// isDone reports whether an answer is one to a line that does something.
func isDone(answer string) bool {
	word, _, _ := strings.Cut(answer, " ")
	return slices.Contains([]string{"ok", "clear", "goes", "ended"}, word)
}

// P12.6: T1, T2
func TestClearAtLaunch(t *testing.T) {
	launches := 0
	eachPlay(t, 1206, 300, func(s api.OfSetup, lines, answers []string, after api.OfState) {
		if after.Launched == none {
			return
		}
		launches++
		i := slices.IndexFunc(lines, func(line string) bool {
			x, e := officer.Parse(line)
			return e == api.OK && x.Verb == api.OfEnd && x.Name == "launch" && x.At == after.Launched
		})
		for answers[i] != "ok" {
			i++
		}
		before := lines[:i]
		_, state := playOf(t, s, before)
		why, e := officer.Clear(s, before, after.Launched)
		impacts, f := officer.Impacts(s, before, after.Launched)
		if why != 0 || e != api.OK || f != api.OK || state.Setting != after.Setting || !slices.Equal(state.Notices, after.Notices) {
			t.Fatalf("%d, %d, %v, %d: a launch at %d by %q of %+v", why, e, impacts, f, after.Launched, lines, s)
		}
		w := witness{setup: s}
		for j, line := range before {
			if x, _ := officer.Parse(line); isDone(answers[j]) {
				w.done = append(w.done, x)
			}
		}
		bands, _ := wind.Bands(w.winds(), after.Launched, after.Launched)
		allowed, _ := aim.Allowed(s.Aim, bands)
		risk, _ := hazard.Risk(s.Map, impacts, s.Laws)
		within, _ := hazard.Within(risk, s.Limit)
		for j := range impacts {
			impacts[j].At.Lo += after.Launched
			impacts[j].At.Hi += after.Launched
			if n, e := hazard.Covers(after.Notices, impacts[j]); n == 0 || e != api.OK {
				t.Fatalf("%v in no notice of %q", impacts[j], after.Notices)
			}
		}
		ships, e1 := hazard.Ships(impacts, w.crafts())
		states, e2 := flight.Fly(s.Vehicle, s.Dirs[state.Setting], bands, impacts[len(impacts)-1].At.Hi-after.Launched)
		planes, e3 := hazard.Meets(states, after.Launched, w.crafts())
		if !slices.Contains(allowed, state.Setting) || !within || len(ships)+len(planes) > 0 || e1 != api.OK || e2 != api.OK || e3 != api.OK {
			t.Fatalf("%v, %v, %v, %v: a launch at %d by %q of %+v", allowed, risk, ships, planes, after.Launched, lines, s)
		}
	})
	if launches < 50 {
		t.Errorf("%d launches", launches)
	}
}

// P12.7: T5
func TestNoDanger(t *testing.T) {
	r := rand.New(rand.NewSource(1207))
	armed, near := 0, 0
	for range 200 {
		s := grand()
		lines := ready()
		for range pick(r, 5, 20, 60) {
			i := r.Intn(len(lines)) + 1
			lines = slices.Insert(lines, i, sentence("at", tickOf(lines, i), "person", pick(r, "ann", "ann", "bob", "eve"), 1+r.Intn(9), r.Intn(4)-1, pick(r, -1, -1, 0, 1, 2)))
		}
		for i := range len(lines) / 8 {
			_, after := playOf(t, s, lines[:8*(i+1)])
			dangers, e := pad.Danger(s.Count.Pad, after.Count.Pad)
			if len(dangers) > 0 || e != api.OK {
				t.Fatalf("%v, %d, after %q", dangers, e, lines)
			}
			if slices.Contains(after.Count.Pad.Squibs, api.PdArmed) {
				armed++
			}
			if slices.Max(after.Count.Pad.Zones) > 0 {
				near++
			}
		}
	}
	if armed < 20 || near < 20 {
		t.Errorf("%d times a squib is armed, %d times a person is on the road", armed, near)
	}
}

// P12.8: T8
func TestLaterLines(t *testing.T) {
	r := rand.New(rand.NewSource(1208))
	left := 0
	eachPlay(t, 12081, 200, func(s api.OfSetup, lines, answers []string, after api.OfState) {
		n := r.Intn(len(lines) + 1)
		if first, _ := playOf(t, s, lines[:n]); !slices.Equal(first, answers[:n]) {
			t.Fatalf("%q, and not %q, to %q of %+v", first, answers[:n], lines, s)
		}
		// Without all lines, or some lines, that do nothing.
		for _, share := range []int{1, 2} {
			var kept, wanted []string
			for i, line := range lines {
				if isDone(answers[i]) || r.Intn(share) > 0 {
					kept, wanted = append(kept, line), append(wanted, answers[i])
				} else {
					left++
				}
			}
			got, state := playOf(t, s, kept)
			if !slices.Equal(got, wanted) || !same(state, after) {
				t.Fatalf("%q, %+v, and not %q, %+v, to %q of %+v", got, state, wanted, after, kept, s)
			}
		}
	})
	if left < 500 {
		t.Errorf("%d lines are left out", left)
	}
}

// P12.10: T4
func TestEndedOnce(t *testing.T) {
	ended := 0
	eachPlay(t, 1210, 300, func(s api.OfSetup, lines, answers []string, after api.OfState) {
		w := witness{setup: s}
		end := none
		for i, line := range lines {
			x, e := officer.Parse(line)
			if e == api.OK && x.Verb == api.OfLook && isDone(answers[i]) {
				look, e := destruct.Look(s.Destruct, w.track(), x.At)
				if end != none || e != api.OK || (look.Why == 0) != (answers[i] == "goes") {
					t.Fatalf("%q to %q of %q, after an end at %d: %+v, %d", answers[i], line, lines, end, look, e)
				}
				if look.Why != 0 {
					end = x.At
					ended++
				}
			}
			if isDone(answers[i]) {
				w.done = append(w.done, x)
			}
		}
		if after.Ended != end {
			t.Fatalf("%d, and not %d, after %q", after.Ended, end, lines)
		}
	})
	if ended < 40 {
		t.Errorf("%d flights are ended", ended)
	}
}

// P12.12
func TestAimed(t *testing.T) {
	aimed := 0
	eachPlay(t, 1212, 200, func(s api.OfSetup, lines, answers []string, after api.OfState) {
		w := witness{setup: s}
		for i, line := range lines {
			x, e := officer.Parse(line)
			if e == api.OK && x.Verb == api.OfAim && isDone(answers[i]) {
				aimed++
				bands, _ := wind.Bands(w.winds(), x.At, x.At)
				choice, e := aim.Best(s.Aim, bands)
				_, state := playOf(t, s, lines[:i+1])
				if e != api.OK || state.Setting != choice.Setting || answers[i] != sentence("ok", choice.Setting) {
					t.Fatalf("%q, %d, and not %d, after %q of %+v", answers[i], state.Setting, choice.Setting, lines[:i+1], s)
				}
			}
			if isDone(answers[i]) {
				w.done = append(w.done, x)
			}
		}
	})
	if aimed < 100 {
		t.Errorf("the launcher is set %d times", aimed)
	}
}

// roomy returns a copy of a value whose lists have all some room behind them.
func roomy(v reflect.Value) reflect.Value {
	c := reflect.New(v.Type()).Elem()
	c.Set(v)
	switch v.Kind() {
	case reflect.Struct:
		for i := range v.NumField() {
			c.Field(i).Set(roomy(v.Field(i)))
		}
	case reflect.Slice:
		l := reflect.MakeSlice(v.Type(), v.Len(), v.Len()+5)
		for i := range v.Len() {
			l.Index(i).Set(roomy(v.Index(i)))
		}
		c.Set(l)
	}
	return c
}

// shown returns all that there is in a value, with the room behind its lists.
func shown(v reflect.Value) string {
	switch v.Kind() {
	case reflect.Struct:
		var l []string
		for i := range v.NumField() {
			l = append(l, shown(v.Field(i)))
		}
		return fmt.Sprint(l)
	case reflect.Slice:
		l := []string{fmt.Sprint(v.Len())}
		all := v.Slice(0, v.Cap())
		for i := range all.Len() {
			l = append(l, shown(all.Index(i)))
		}
		return fmt.Sprint(l)
	}
	return fmt.Sprintf("%#v", v.Interface())
}

// everyCall calls all functions.
func everyCall(s api.OfSetup, lines []string) {
	officer.Check(s)
	officer.Play(s, lines)
	officer.Impacts(s, lines, 60)
	officer.Clear(s, lines, 60)
	record, _ := officer.Record(s, lines)
	officer.Replay(s, record)
	for _, line := range lines {
		if x, e := officer.Parse(line); e == api.OK {
			officer.Text(x)
		}
	}
}

// P12.13: the arguments are as they were after all calls, and so is the room behind their lists.
func TestArgumentsStay(t *testing.T) {
	r := rand.New(rand.NewSource(1213))
	for range 60 {
		s := roomy(reflect.ValueOf(randomRange(r))).Interface().(api.OfSetup)
		lines := roomy(reflect.ValueOf(randomPlay(r))).Interface().([]string)
		before, were := shown(reflect.ValueOf(s)), shown(reflect.ValueOf(lines))
		everyCall(s, lines)
		if shown(reflect.ValueOf(s)) != before || shown(reflect.ValueOf(lines)) != were {
			t.Fatalf("%+v, %q", s, lines)
		}
	}
	x := line(5, api.OfSound, "mast", append(make([]int, 0, 9), 1, 2, 3)...)
	officer.Text(x)
	if !same(x, line(5, api.OfSound, "mast", 1, 2, 3)) || x.Numbers[:9][3] != 0 {
		t.Errorf("%v", x)
	}
}

// spoil changes all numbers and strings of the lists of a value.
func spoil(v reflect.Value) {
	switch v.Kind() {
	case reflect.Struct:
		for i := range v.NumField() {
			spoil(v.Field(i))
		}
	case reflect.Slice:
		for i := range v.Len() {
			spoil(v.Index(i))
			switch x := v.Index(i); x.Kind() {
			case reflect.Int:
				x.SetInt(77)
			case reflect.String:
				x.SetString("spoilt")
			case reflect.Bool:
				x.SetBool(!x.Bool())
			case reflect.Struct:
				x.SetZero()
			}
		}
	}
}

// P12.13: who changes a result changes neither the arguments nor a later result.
func TestResultsAreNew(t *testing.T) {
	s, lines := grand(), append(ready(), "at 56 hold", "at 56 resume")
	s.Wind.Soundings = []api.WnSounding{{Tick: 5, Height: 900}}
	var first []any
	for i := range 2 {
		answers, after := playOf(t, s, lines)
		_, none := playOf(t, s, nil)
		impacts, e := officer.Impacts(s, lines, 60)
		x, f := officer.Parse("at 1 plot gps 1 2 3")
		all := []any{answers, after, none, impacts, e, x, f}
		if i == 0 {
			for _, v := range all {
				first = append(first, roomy(reflect.ValueOf(v)).Interface())
			}
		}
		for j, v := range all {
			if !same(v, first[j]) {
				t.Errorf("%+v, and not %+v", v, first[j])
			}
			spoil(reflect.ValueOf(v))
		}
	}
	s.Wind.Soundings = nil
	if !same(s, grand()) || !slices.Equal(lines, append(ready(), "at 56 hold", "at 56 resume")) {
		t.Errorf("%+v, %q", s, lines)
	}
	// The lists of one result share nothing.
	_, after := playOf(t, grand(), lines)
	for i := range after.Count.Begun {
		after.Count.Begun[i] = 1000
	}
	if slices.Contains(after.Count.Ended, 1000) || slices.Contains(after.Count.Left, 1000) && after.Count.Left[0] != 1000 {
		t.Errorf("%+v", after.Count)
	}
}

// emptied returns a copy of a value in which lists without an element are not nil.
func emptied(v reflect.Value) reflect.Value {
	c := roomy(v)
	if v.Kind() == reflect.Struct {
		for i := range v.NumField() {
			c.Field(i).Set(emptied(v.Field(i)))
		}
	}
	return c
}

// P12.13: nil lists are the same as empty ones.
func TestNilLists(t *testing.T) {
	for _, s := range []api.OfSetup{grand(), example(), {}} {
		empty := emptied(reflect.ValueOf(s)).Interface().(api.OfSetup)
		for _, lines := range [][]string{nil, {}, ready(), launched()} {
			a, after, e := officer.Play(s, lines)
			b, again, f := officer.Play(empty, lines)
			if !slices.Equal(a, b) || !same(after, again) || e != f {
				t.Errorf("%q, %+v, %d, and %q, %+v, %d", a, after, e, b, again, f)
			}
		}
	}
}

// numbersOf returns all numbers of a value that can be set.
func numbersOf(v reflect.Value) (l []reflect.Value) {
	switch v.Kind() {
	case reflect.Struct:
		for i := range v.NumField() {
			l = append(l, numbersOf(v.Field(i))...)
		}
	case reflect.Slice:
		for i := range v.Len() {
			l = append(l, numbersOf(v.Index(i))...)
		}
	case reflect.Int:
		l = append(l, v)
	}
	return l
}

// P12.13, P1: no arguments make a function panic, and with an error all other results are zero.
func TestAnyArguments(t *testing.T) {
	r := rand.New(rand.NewSource(12131))
	fine := 0
	for range 1500 {
		s := roomy(reflect.ValueOf(randomRange(r))).Interface().(api.OfSetup)
		numbers := numbersOf(reflect.ValueOf(&s).Elem())
		for range r.Intn(3) {
			numbers[r.Intn(len(numbers))].SetInt(int64(odd(r)))
		}
		lines := randomPlay(r)[:r.Intn(20)]
		if r.Intn(30) == 0 {
			lines = append(lines, "\n", "\xff\x00", strings.Repeat("at ", 1000))
		}
		tick := pick(r, 0, 60, odd(r))
		part, at, e := officer.Check(s)
		if (part == 0) != (e == api.OK) || at != 0 && !slices.Contains([]int{3, 5, 6}, part) {
			t.Fatalf("Check = %d, %d, %d", part, at, e)
		}
		answers, after, e1 := officer.Play(s, lines)
		impacts, e2 := officer.Impacts(s, lines, tick)
		why, e3 := officer.Clear(s, lines, tick)
		record, e4 := officer.Record(s, lines)
		index, e5 := officer.Replay(s, pick(r, record, record, record+"x"))
		if e != e1 || e != api.OK && (e2 != e || e3 != e || e4 != e || e5 != e) {
			t.Fatalf("%d, %d, %d, %d, %d, %d", e, e1, e2, e3, e4, e5)
		}
		if e1 != api.OK && (len(answers) > 0 || !isZero(after)) || e2 != api.OK && len(impacts) > 0 || e3 != api.OK && why != 0 || e4 != api.OK && record != "" || e5 != api.OK && index != 0 {
			t.Fatalf("a result that is not zero with an error, of %+v, %q, %d", s, lines, tick)
		}
		if e == api.OK {
			fine++
		}
	}
	if fine < 500 {
		t.Errorf("%d setups have no error", fine)
	}
}
