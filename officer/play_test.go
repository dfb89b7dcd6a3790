package officer_test

import (
	"slices"
	"strconv"
	"strings"
	"testing"

	"hangfire/api"
	"hangfire/count"
	"hangfire/officer"
)

// exampleScript is that of the chapter.
func exampleScript() []string {
	return []string{
		"at 0 clear > unsafe 1",
		"at 0 aim > ok 0",
		"at 1 sound mast 500 100 -20 > ok",
		"at 1 begin launch > ok",
		"at 2 end launch > unsafe 7",
		"at 2 notice 7 > ok",
		"at 2 clear > clear",
		"at 3 end launch > no 186",
		"at 6 end launch > ok",
		"at 6 begin launch > no 9",
		"at 5 look > no 180",
		"at 8 plot gps 0 0 1000 > ok",
		"at 8 plot gps 0 0 1000 > no 5",
		"at 8 cancel 07 > bad",
		"at 9 look > goes",
	}
}

// The examples.
func TestExample(t *testing.T) {
	after := follow(t, example(), exampleScript()...)
	want := api.OfState{Now: 9, Launched: 6, Ended: none, Notices: []string{"NOTICE 7 FROM 40 UNTIL 440 X -1 1 Y 0 0"}, Soundings: 1, Plots: 1}
	want.Count, _, _ = count.Play(example().Count, []api.CtEvent{{At: 1, Kind: api.CtBegin}, {At: 6, Kind: api.CtEnd}})
	if !same(after, want) {
		t.Errorf("%+v, and not %+v", after, want)
	}
	// The risk is 1 of 4, and so within the limit; it is not within a lesser one.
	less := changed(example(), func(s *api.OfSetup) { s.Limit = api.HzRisk{Num: 249, Den: 1000} })
	follow(t, less, "at 0 aim > ok 0", "at 2 notice 7 > ok", "at 2 clear > unsafe 5")
}

// P12.3: the state at first, and how many lines there may be.
func TestPlayNothing(t *testing.T) {
	s := grand()
	s.Wind.Soundings = []api.WnSounding{{Tick: 3, Height: 5}, {Tick: 4, Height: 5}}
	s.Crafts[1].Sights = append(s.Crafts[1].Sights, api.HzSight{Tick: 50})
	_, after := playOf(t, s, nil)
	want := api.OfState{Setting: none, Launched: none, Ended: none, Soundings: 2, Sights: 3}
	want.Count, _ = count.Start(s.Count)
	if !same(after, want) {
		t.Errorf("%+v, and not %+v", after, want)
	}
	answers, _ := playOf(t, s, make([]string, 120))
	if !slices.Equal(answers, slices.Repeat([]string{"bad"}, 120)) {
		t.Errorf("%q", answers)
	}
	if answers, after, e := officer.Play(s, make([]string, 121)); !isZero(answers) || !isZero(after) || e != api.ErrLong {
		t.Errorf("Play = %q, %+v, %d", answers, after, e)
	}
}

// P12.3: which lines make their tick that of the desk.
func TestNow(t *testing.T) {
	for i, c := range []struct {
		script []string
		now    int
	}{
		{[]string{"at 5 aim > no 9"}, 0},
		{[]string{"at 5 clear > unsafe 1"}, 0},
		{[]string{"at 5 end launch > unsafe 1"}, 0},
		{[]string{"at 5 cancel 1 > no 4"}, 0},
		{[]string{"at 5 hold 1 > bad"}, 0},
		{[]string{"at 100000 hold > ok"}, 100000},
		{[]string{"at 5 hold > ok", "at 4 resume > no 180", "at 5 resume > ok", "at 4 hold > no 180"}, 5},
		{[]string{"at 5 hold > ok", "at 9 hold > no 181", "at 6 resume > ok"}, 6},
		{[]string{"at 9 sound mast 5 0 0 > ok"}, 9},
		{[]string{"at 9 sight ferry 0 0 0 0 > ok", "at 8 sight kite 0 0 700000 0 > no 180"}, 9},
		{append(launched(), "at 61 look > goes"), 61},
		{append(launched(), "at 61 plot gps 0 0 0 > ok"), 61},
		{append(launched(), "at 80 look > ended 1 0"), 80},
		{append(ready(), "at 57 clear > clear"), 57},
		{append(ready(), "at 57 aim > ok 0"), 57},
		{append(ready(), "at 57 notice 12 > ok"), 57},
		{append(ready(), "at 57 cancel 10 > ok", "at 58 clear > unsafe 7"), 57},
	} {
		if after := follow(t, grand(), c.script...); after.Now != c.now {
			t.Errorf("%d: %d, and not %d", i, after.Now, c.now)
		}
	}
}

// P12.3: what can be said before the launch, in the flight, and after its end.
func TestOpen(t *testing.T) {
	numbers := map[string]string{"sound": " 5 0 0", "sight": " 0 0 0 0", "notice": " 5", "cancel": " 5", "person": " 1 0 -1", "plot": " 0 0 0"}
	flight := launched()
	over := append(launched(), "at 80 look > ended 1 0")
	for _, v := range verbs() {
		line := v.word + numbers[v.word]
		if len(v.names) > 0 {
			line = v.word + " nobody" + numbers[v.word]
		}
		answer := func(at string, before []string) string {
			answers, _ := playOf(t, grand(), append(linesOf(before), at+line))
			return answers[len(before)]
		}
		first, second, third := answer("at 0 ", nil), answer("at 61 ", flight), answer("at 81 ", over)
		switch v.word {
		case "sound", "sight":
			if first != "no 4" || second != "no 4" || third != "no 4" {
				t.Errorf("%s: %q, %q, %q", line, first, second, third)
			}
		case "plot":
			if first != "no 9" || second != "no 4" || third != "no 9" {
				t.Errorf("%s: %q, %q, %q", line, first, second, third)
			}
		case "look":
			if first != "no 9" || second != "goes" || third != "no 9" {
				t.Errorf("%s: %q, %q, %q", line, first, second, third)
			}
		default:
			if first == "no 9" != slices.Contains([]string{"notice", "aim"}, v.word) || second != "no 9" || third != "no 9" {
				t.Errorf("%s: %q, %q, %q", line, first, second, third)
			}
		}
	}
	// The tick comes first.
	follow(t, grand(), append(launched(), "at 59 hold > no 180", "at 59 plot gps 0 0 0 > no 180", "at 59 sound nobody 0 0 0 > no 180", "at 60 sound mast 0 0 0 > ok")...)
}

// P12.3: sound
func TestSound(t *testing.T) {
	after := follow(t, grand(),
		"at 0 sound bell 5 0 0 > no 4",
		"at 0 sound ferry -1 0 0 > no 4",
		"at 0 sound mast -1 0 0 > no 7",
		"at 0 sound mast 300001 0 0 > no 7",
		"at 0 sound mast 300000 20001 0 > no 7",
		"at 0 sound mast 300000 0 -20001 > no 7",
		"at 0 sound mast 300000 20000 -20000 > ok",
		"at 0 sound mast 300000 0 0 > no 5",
		"at 0 sound blue 300000 0 0 > ok",
		"at 1 sound mast 300000 0 0 > ok",
		"at 1 sound mast 100 0 0 > ok",
		"at 1 sound blue 299999 0 0 > no 2",
		"at 1 sound blue 300000 0 0 > ok",
		"at 1 sound blue 300000 0 0 > no 5",
	)
	if after.Soundings != 5 {
		t.Errorf("%d soundings", after.Soundings)
	}
	full := grand()
	for i := range 59 {
		full.Wind.Soundings = append(full.Wind.Soundings, api.WnSounding{Tick: i})
	}
	after = follow(t, full, "at 5 sound mast 0 0 0 > no 5", "at 60 sound mast 0 0 0 > ok", "at 61 sound mast 0 0 0 > no 3", "at 61 sound bell 0 0 0 > no 4")
	if after.Soundings != 60 {
		t.Errorf("%d soundings", after.Soundings)
	}
	follow(t, grand(), append(launched(), "at 61 sound mast 5000 450 0 > ok", "at 80 look > ended 1 0", "at 90 sound mast 5000 450 0 > ok")...)
}

// P12.3: sight
func TestSight(t *testing.T) {
	after := follow(t, grand(),
		"at 0 sight gull 0 0 0 0 > no 4",
		"at 0 sight mast 0 0 0 -1 > no 4",
		"at 0 sight ferry 0 0 0 0 > no 2",
		"at 1 sight ferry 2000000001 0 0 0 > no 7",
		"at 1 sight ferry 0 -2000000001 0 0 > no 7",
		"at 1 sight ferry 0 0 -1 0 > no 7",
		"at 1 sight ferry 0 0 2000000001 0 > no 7",
		"at 1 sight ferry 0 0 0 -1 > no 7",
		"at 1 sight ferry 0 0 0 2000000001 > no 7",
		"at 1 sight ferry -2000000000 2000000000 0 2000000000 > ok",
		"at 1 sight ferry 0 0 0 0 > no 2",
		"at 1 sight kite 0 0 2000000000 0 > ok",
	)
	if after.Sights != 4 {
		t.Errorf("%d sights", after.Sights)
	}
	var script []string
	for i := 1; i < 12; i++ {
		answer := "ok"
		if i > 9 {
			answer = "no 3"
		}
		script = append(script, "at "+strconv.Itoa(i)+" sight kite 0 0 0 0 > "+answer)
	}
	if after := follow(t, grand(), script...); after.Sights != 11 {
		t.Errorf("%d sights", after.Sights)
	}
	follow(t, grand(), append(launched(), "at 61 sight ferry 0 0 0 0 > ok", "at 80 look > ended 1 0", "at 90 sight ferry 0 0 0 0 > ok")...)
}

// P12.3, P12.12: aim
func TestAim(t *testing.T) {
	after := follow(t, grand(), "at 0 aim > no 9")
	if after.Setting != none {
		t.Errorf("%d", after.Setting)
	}
	// With a wind to the east the best setting is that to the west.
	after = follow(t, grand(), append(linesOf(readyIn(1600, 1620)[:4]), "at 0 aim > ok 1")...)
	if after.Setting != 1 {
		t.Errorf("%d", after.Setting)
	}
	after = follow(t, grand(), append(linesOf(readyIn(-1600, -1580)[:4]), "at 0 aim > ok 2", "at 1201 aim > no 9")...)
	if after.Setting != 2 {
		t.Errorf("%d", after.Setting)
	}
	// Sources that contradict each other; bands that do not reach up to the last weight.
	follow(t, grand(), append(linesOf(readyIn(450, 900)[:4]), "at 19 aim > ok 0", "at 20 aim > no 9")...)
	high := changed(grand(), func(s *api.OfSetup) { s.Aim.Response[1].To = 1000001 })
	follow(t, high, append(linesOf(ready()[:4]), "at 0 aim > no 4")...)
	// The wind is that of the tick, by what is known at it.
	follow(t, grand(), "at 0 sound mast 5000 450 0", "at 0 sound mast 200000 500 10", "at 0 sound mast 300000 530 10", "at 0 sound blue 100000 1600 0", "at 0 aim > ok 0", "at 20 aim > no 9")
}

// P12.3: notice
func TestNotice(t *testing.T) {
	after := follow(t, grand(), append(linesOf(ready()[:7]),
		"at 5 notice 0 > no 7",
		"at 5 notice -1 > no 7",
		"at 5 notice 9999 > no 7",
		"at 5 notice 1000000000000 > no 7",
		"at 5 notice 9998 > ok",
		"at 5 notice 9998 > ok",
	)...)
	pair := []string{"NOTICE 9998 FROM 193 UNTIL 1752 X -1 1 Y -1 1", "NOTICE 9999 FROM 386 UNTIL 1946 X -1 1 Y -1 1"}
	if !slices.Equal(after.Notices, append(pair, pair...)) {
		t.Errorf("%q", after.Notices)
	}
	// Margin and Slack.
	plain := changed(grand(), func(s *api.OfSetup) { s.Slack = 0 })
	after = follow(t, plain, append(linesOf(ready()[:7]), "at 5 notice 1 > ok")...)
	if want := []string{"NOTICE 1 FROM 243 UNTIL 1702 X -1 1 Y -1 1", "NOTICE 2 FROM 436 UNTIL 1896 X -1 1 Y -1 1"}; !slices.Equal(after.Notices, want) {
		t.Errorf("%q", after.Notices)
	}
	wide := changed(grand(), func(s *api.OfSetup) { s.Margin, s.Slack = 1000000, 100000 })
	after = follow(t, wide, append(linesOf(ready()[:7]), "at 5 notice 1 > ok")...)
	if want := []string{"NOTICE 1 FROM 0 UNTIL 100000 X -2 2 Y -2 2", "NOTICE 2 FROM 0 UNTIL 100000 X -2 2 Y -2 2"}; !slices.Equal(after.Notices, want) {
		t.Errorf("%q", after.Notices)
	}
}

// P12.3: notices that are not published.
func TestNoticeErrors(t *testing.T) {
	none := func(change func(s *api.OfSetup), script ...string) {
		t.Helper()
		if after := follow(t, changed(grand(), change), append(linesOf(ready()[:7]), script...)...); len(after.Notices) > 0 {
			t.Errorf("%q", after.Notices)
		}
	}
	follow(t, grand(), "at 0 notice 10 > no 9", "at 0 notice 0 > no 9")
	none(func(s *api.OfSetup) {}, "at 1000 notice 0 > no 7")
	// No impacts: it does not come down, or goes too far.
	none(func(s *api.OfSetup) { s.Vehicle.Air, s.Vehicle.Gravity.Lo = nil, 0 }, "at 5 notice 0 > no 9")
	none(func(s *api.OfSetup) { s.Vehicle.Pieces[0].Drag = span(500, 1000) }, "at 5 notice 0 > no 3")
	// The impacts in the whole window are none, or begin more than 3000 ticks before they end.
	none(func(s *api.OfSetup) { s.Count.Window = span(0, 2991) }, "at 5 notice 10 > no 7")
	none(func(s *api.OfSetup) { s.Count.Window = span(98000, 99700) }, "at 5 notice 10 > no 7")
	for _, window := range []api.Span{span(0, 2990), span(97000, 99604)} {
		follow(t, changed(grand(), func(s *api.OfSetup) { s.Count.Window = window }), append(linesOf(ready()[:7]), "at 5 notice 10 > ok")...)
	}
	// The piece flies about 1000 km.
	none(func(s *api.OfSetup) {
		s.Vehicle.Air, s.Vehicle.Gravity, s.Vehicle.Phases[0].Tilt.X = nil, span(20, 20), span(0, 0)
		s.Vehicle.Pieces[0].Kick.X = span(1000000, 1000000)
		s.Margin = 2000000000
	}, "at 5 notice 10 > no 3", "at 5 notice 0 > no 7")
	// The sources contradict each other.
	follow(t, grand(), append(linesOf(readyIn(450, 900)[:7]), "at 19 notice 10 > ok", "at 20 notice 0 > no 9")...)
}

// P12.3: how many notices there may be, and cancel.
func TestCancel(t *testing.T) {
	aimed := linesOf(ready()[:7])
	after := follow(t, grand(), append(slices.Clone(aimed),
		"at 5 cancel 10 > no 4",
		"at 5 notice 10 > ok",
		"at 6 cancel 9 > no 4",
		"at 6 cancel 0 > no 7",
		"at 6 cancel 10000 > no 7",
		"at 6 cancel -1 > no 6",
		"at 6 cancel 11 > ok",
		"at 6 cancel 11 > no 4",
		"at 7 notice 11 > ok",
		"at 7 cancel 11 > ok",
		"at 7 cancel 10 > ok",
	)...)
	if len(after.Notices) != 7 || after.Notices[2] != "CANCEL 11" || after.Notices[6] != "CANCEL 10" {
		t.Errorf("%q", after.Notices)
	}
	var script []string
	for i := range 29 {
		script = append(script, "at 8 notice "+strconv.Itoa(2*i+1)+" > ok")
	}
	full := append(slices.Clone(aimed), script...)
	after = follow(t, grand(), append(slices.Clone(full), "at 8 notice 99 > ok", "at 8 notice 99 > no 3", "at 8 cancel 99 > no 3", "at 8 cancel 0 > no 3")...)
	if len(after.Notices) != 60 {
		t.Errorf("%q", after.Notices)
	}
	// Of the 61st one and of the 62nd one neither is published.
	after = follow(t, grand(), append(slices.Clone(full), "at 8 cancel 1 > ok", "at 8 notice 99 > no 3", "at 8 cancel 2 > ok", "at 8 cancel 3 > no 3")...)
	if len(after.Notices) != 60 || after.Notices[59] != "CANCEL 2" {
		t.Errorf("%q", after.Notices)
	}
}

// P12.3: lines of the countdown, and the events that they are.
func TestEvents(t *testing.T) {
	move := api.PdAct{At: 5, Kind: api.PdMove, Who: 2, What: 0, With: 1}
	var want []api.CtEvent
	var script []string
	for _, x := range []struct {
		line string
		v    api.CtEvent
	}{
		{"at 1 hold > ok", api.CtEvent{At: 1, Kind: api.CtHold}},
		{"at 2 resume > ok", api.CtEvent{At: 2, Kind: api.CtResume}},
		{"at 3 begin fill > ok", api.CtEvent{At: 3, Kind: api.CtBegin, What: 0}},
		{"at 4 go safety > ok", api.CtEvent{At: 4, Kind: api.CtGo, What: 1}},
		{"at 5 person eve 1 0 1 > ok", api.CtEvent{At: 5, Kind: api.CtPerson, Act: move}},
		{"at 6 charge main > ok", api.CtEvent{At: 6, Kind: api.CtCharge, What: 1}},
		{"at 13 end fill > ok", api.CtEvent{At: 13, Kind: api.CtEnd, What: 0}},
		{"at 14 begin check > ok", api.CtEvent{At: 14, Kind: api.CtBegin, What: 1}},
		{"at 15 nogo safety > ok", api.CtEvent{At: 15, Kind: api.CtNoGo, What: 1}},
		{"at 16 go range > ok", api.CtEvent{At: 16, Kind: api.CtGo, What: 0}},
		{"at 20 end check > ok", api.CtEvent{At: 20, Kind: api.CtEnd, What: 1}},
		{"at 25 recycle check > ok", api.CtEvent{At: 25, Kind: api.CtRecycle, What: 0}},
		{"at 30 charge aux > ok", api.CtEvent{At: 30, Kind: api.CtCharge, What: 0}},
	} {
		script, want = append(script, x.line), append(want, x.v)
		after := follow(t, grand(), script...)
		if state, _, _ := count.Play(grand().Count, want); !same(after.Count, state) {
			t.Errorf("%q: %+v, and not %+v", script, after.Count, state)
		}
	}
}

// P12.3: lines of the countdown that have an error, or are refused.
func TestEventErrors(t *testing.T) {
	after := follow(t, grand(),
		"at 1 begin land > no 4",
		"at 1 end land > no 4",
		"at 1 go main > no 4",
		"at 1 nogo main > no 4",
		"at 1 charge range > no 4",
		"at 1 person sam 1 0 -1 > no 4",
		"at 1 person sam 99 0 -1 > no 4",
		"at 1 recycle land > no 4",
		"at 1 recycle fill > no 4",
		"at 1 recycle launch > no 4",
		"at 1 recycle check > no 181",
		"at 1 resume > no 181",
		"at 1 nogo range > no 181",
		"at 1 begin check > no 182",
		"at 1 end fill > no 181",
		"at 1 begin fill > ok",
		"at 5 end fill > no 186",
		"at 1 person ann 0 0 -1 > no 2",
		"at 1 person ann 10 0 -1 > no 2",
		"at 1 person ann 1000000000000 0 -1 > no 2",
		"at 1 person ann 1 3 -1 > no 4",
		"at 1 person ann 1 0 3 > no 4",
		"at 1 person ann 1 0 0 > no 2",
		"at 1 person ann 1 2 -1 > no 171",
		"at 1 hold > ok",
		"at 1 hold > no 181",
		"at 11 end fill > ok",
		"at 12 begin check > no 183",
		"at 12 resume > ok",
		"at 12 begin check > ok",
		"at 13 charge aux > no 181",
		"at 20 end check > ok",
		"at 20 begin launch > no 184",
		"at 2000 go range > ok",
		"at 2000 go safety > ok",
		"at 2000 begin launch > no 185",
	)
	if after.Now != 2000 || after.Count.Now != 2000 {
		t.Errorf("%+v", after)
	}
	// What a step does when it ends may be refused, too.
	armed := changed(grand(), func(s *api.OfSetup) {
		s.Count.Steps[0].Acts = []api.PdAct{{Kind: api.PdMove, Who: 0, What: 0, With: -1}, {Kind: api.PdFire, Who: 0, What: 0, With: -1}}
	})
	after = follow(t, armed, "at 0 begin fill > ok", "at 20 end fill > no 177")
	if after.Count.Pad.Zones[0] != -1 || after.Now != 0 {
		t.Errorf("%+v", after)
	}
}

// P12.3: how many events there may be.
func TestEventsFull(t *testing.T) {
	var script []string
	for i := range 50 {
		script = append(script, "at "+strconv.Itoa(i)+" hold > ok", "at "+strconv.Itoa(i)+" resume > ok")
	}
	after := follow(t, grand(), append(script, "at 60 hold > no 3", "at 60 begin land > no 4", "at 60 sound mast 0 0 0 > ok")...)
	if after.Count.Held || after.Count.Now != 49 || after.Now != 60 {
		t.Errorf("%+v", after)
	}
	// What is refused is none of them.
	script = append(slices.Repeat([]string{"at 0 resume > no 181"}, 19), script...)
	follow(t, grand(), append(script, "at 60 hold > no 3")...)
}

// P12.3: end of the last step
func TestLaunch(t *testing.T) {
	// It has to be clear, whatever else is wrong.
	after := follow(t, grand(), "at 0 end launch > unsafe 1", "at 0 end fill > no 181", "at 0 end check > no 181")
	if after.Launched != none {
		t.Errorf("%+v", after)
	}
	after = follow(t, grand(), append(ready(), "at 44 end launch > no 180", "at 57 end launch > ok", "at 57 look > goes")...)
	if after.Launched != 57 || after.Count.Ended[2] != 57 || after.Now != 57 || after.Ended != none {
		t.Errorf("%+v", after)
	}
	// A launch that is refused is none: it is too early in the window, or in the step.
	late := changed(grand(), func(s *api.OfSetup) { s.Count.Window.Lo = 58 })
	after = follow(t, late, append(ready(), "at 57 end launch > no 187", "at 57 look > no 9", "at 58 end launch > ok")...)
	if after.Launched != 58 {
		t.Errorf("%+v", after)
	}
	// The tick of the launch is that from which on it is tracked: a plot at it is one at the pad.
	follow(t, grand(), append(launched(), "at 60 plot gps 1000000 0 0 > ok", "at 60 plot gps 0 0 0 > no 5", "at 62 look > goes")...)
	// Other steps end with no regard to whether it is clear.
	follow(t, grand(), "at 0 begin fill > ok", "at 10 end fill > ok")
}

// P12.3: plot and look
func TestFlight(t *testing.T) {
	after := follow(t, grand(), append(launched(),
		"at 60 plot moon 0 0 0 > no 4",
		"at 60 plot gps 2000000001 0 0 > no 7",
		"at 60 plot gps 0 -2000000001 0 > no 7",
		"at 60 plot gps 0 0 -1000000000000 > no 7",
		"at 60 plot gps 0 0 0 > ok",
		"at 60 plot east 0 0 0 > ok",
		"at 60 look > goes",
		"at 61 plot east 1 2 1000 > ok",
		"at 61 plot west 1 2 1000 > ok",
		"at 61 plot east 1 2 1000 > no 5",
		"at 61 look > goes",
		"at 66 look > ended 1 0",
		"at 66 look > no 9",
		"at 67 plot east 1 2 9000 > no 9",
	)...)
	if after.Plots != 4 || after.Launched != 60 || after.Ended != 66 || after.Now != 66 {
		t.Errorf("%+v", after)
	}
	var script []string
	for i := range 30 {
		script = append(script, "at "+strconv.Itoa(60+i)+" plot gps 0 0 0 > ok", "at "+strconv.Itoa(60+i)+" plot west 0 0 0 > ok")
	}
	after = follow(t, grand(), append(launched(), append(script, "at 90 plot gps 0 0 0 > no 3", "at 90 plot moon 0 0 0 > no 4")...)...)
	if after.Plots != 60 {
		t.Errorf("%+v", after)
	}
}

// P12.3: why a flight is ended, and by which line.
func TestEnds(t *testing.T) {
	for i, c := range []struct {
		change func(s *api.OfSetup)
		answer string
	}{
		{func(s *api.OfSetup) { s.Destruct.Lines[0].Line = 1000000 }, "ended 1 0"},
		{func(s *api.OfSetup) { s.Destruct.Lines[1].Line = 1000000 }, "ended 1 1"},
		{func(s *api.OfSetup) { s.Destruct.Lines[0].Line = 1000000; s.Destruct.Lines[1].Line = 1000000 }, "ended 1 0"},
		{func(s *api.OfSetup) { s.Track.Speed, s.Track.Accel, s.Destruct.Gravity = 1000000, 1000000, span(1, 1) }, "ended 3 -1"},
		{func(s *api.OfSetup) { s.Destruct.Blind = 0; s.Track.Trackers = s.Track.Trackers[:2] }, "ended 2 -1"},
		{func(s *api.OfSetup) {}, "goes"},
	} {
		script := append(launched(), "at 60 plot east 9000 0 0 > ok", "at 61 plot east 9000 0 0 > ok", "at 61 plot west -9000 0 0 > ok", "at 63 look > "+c.answer)
		after := follow(t, changed(grand(), c.change), script...)
		if after.Now != 63 || after.Ended == 63 != strings.HasPrefix(c.answer, "ended") {
			t.Errorf("%d: %+v", i, after)
		}
	}
	follow(t, example(), append(exampleScript(), "at 50 look > goes", "at 100 look > ended 1 1", "at 101 look > no 9")...)
}
