package officer_test

import (
	"math"
	"math/rand"
	"reflect"
	"slices"
	"strconv"
	"strings"
	"testing"

	"hangfire/api"
	"hangfire/officer"
)

// none is what takes the place of a tick, or of a setting, where there is none.
const none = -1

func span(lo, hi int) api.Span { return api.Span{Lo: lo, Hi: hi} }

func area(a, b, c, d int) api.Area { return api.Area{X: span(a, b), Y: span(c, d)} }

// site is the pad P of the examples of chapter 7.
func site() api.PdPad {
	return api.PdPad{
		Zones: []api.PdZone{
			{Name: "bunker", Area: area(-500000, -400000, 0, 50000), Room: 8},
			{Name: "road", Area: area(-300000, -100000, -10000, 10000), Grade: 1, Room: 4},
			{Name: "rail", Area: area(-5000, 5000, -5000, 5000), Grade: 2, Room: 2, Pair: true},
		},
		Doors:  []api.PdDoor{{A: 0, B: -1}, {A: 0, B: 1}, {A: 1, B: 2}},
		People: []api.PdPerson{{Name: "ann", Grade: 5}, {Name: "bob", Grade: 2}, {Name: "eve", Grade: 1}},
		Keys:   []string{"red", "blue", "grey"},
		Squibs: []api.PdSquib{
			{Name: "motor", Clear: 100000, Grade: 5, Keys: []int{0, 1}},
			{Name: "chute", At: api.Place{Y: 3000}, Clear: 20000, Grade: 3, Keys: []int{2}},
		},
		Wait: 100,
	}
}

// dart is the vehicle of the examples of chapter 2.
func dart() api.FlVehicle {
	return api.FlVehicle{
		Name: "dart", Gravity: span(98, 98),
		Phases: []api.FlPhase{{Ticks: 2, Thrust: span(1000, 1000), Mass: span(10, 10), Tilt: api.FlTilt{X: span(-10, 10)}}},
	}
}

// radars are the trackers of the examples of chapter 5.
func radars() []api.TkTracker {
	return []api.TkTracker{
		{Name: "east", X: 3000000, Error: 2000, Grow: 500, Late: 5},
		{Name: "west", X: -500000, Error: 3000, Grow: 1000},
		{Name: "gps", Error: 800, Late: 20},
	}
}

// corridor is the plan P of the examples of chapter 6.
func corridor() api.DePlan {
	return api.DePlan{
		Lines:   []api.DeLine{{A: 1, Keep: 100000, Line: 200000}, {B: -1, Keep: 50000, Line: 80000}},
		Gravity: span(98, 98), Wait: 2, Blind: 10,
	}
}

// example is the small range of the chapter's examples.
func example() api.OfSetup {
	return api.OfSetup{
		Wind: api.WnTask{
			Sources: []api.WnSource{{Name: "mast", Kind: api.WnTower, Error: 50, Life: 6000, High: 300000}},
			Cuts:    []int{1000}, Age: 30, Shear: 20,
		},
		Aim: api.AmTask{
			Response: []api.AmBand{{To: 1000}},
			Settings: []api.AmSetting{{Scale: 1000}},
			Allowed:  area(-1000, 1000, -1000, 1000),
		},
		Dirs:     []api.FlDir{{Z: 10000}},
		Vehicle:  dart(),
		Map:      api.HzMap{Corner: api.Place{X: -10000, Y: -10000}, Size: 20, Cols: 1, Rows: 1, People: []int{100}},
		Laws:     []api.HzLaw{{Lethal: 1, Cap: 1000000}},
		Limit:    api.HzRisk{Num: 1, Den: 4},
		Count:    api.CtPlan{Pad: site(), Steps: []api.CtStep{{Name: "launch", Least: 5, Most: 60}}, Window: span(0, 400)},
		Track:    api.TkTask{Speed: 1000, Accel: 50, Trackers: radars()},
		Destruct: corridor(),
	}
}

// town is where people live east of the pad of the grand range.
func town() []int {
	people := make([]int, 100)
	people[55], people[56], people[65] = 100, 250, 60
	return people
}

// grand is a range that has something of everything: settings that depend on the wind, a piece, crafts, stations, a battery, a point, and trackers of which one may fail.
func grand() api.OfSetup {
	battery := []int{0}
	s := api.OfSetup{
		Wind: api.WnTask{
			Sources: []api.WnSource{
				{Name: "mast", Kind: api.WnTower, Error: 50, Life: 600, High: 300000},
				{Name: "blue", Kind: api.WnBalloon, Error: 100, Late: 20, Life: 1200, High: 30000000},
			},
			Cuts: []int{200000, 1000000}, Age: 30, Shear: 20,
		},
		Aim: api.AmTask{
			Response: []api.AmBand{{From: 0, To: 200000, K: span(900, 1000)}, {From: 200000, To: 500000, K: span(-50, 50)}},
			Settings: []api.AmSetting{
				{Area: area(-2000, 2000, -2000, 2000), Scale: 1000},
				{Area: area(-3000, 1000, -2000, 2000), Scale: 1200},
				{Area: area(-1000, 3000, -2000, 2000), Scale: 1000},
			},
			Allowed: area(-3600, 3600, -3600, 3600), Gain: 10, Turn: 50, Freeze: 200,
		},
		Dirs: []api.FlDir{{Z: 10000}, {X: -1000, Z: 9950}, {X: 1000, Y: 10, Z: 9950}},
		Vehicle: api.FlVehicle{
			Name: "dart", Gravity: span(98, 98), Air: []api.FlAir{{Dens: 300}, {From: 1000000, Dens: 200}},
			Phases: []api.FlPhase{{
				Ticks: 20, Thrust: span(1000, 1010), Mass: span(10, 10), Drag: span(1, 1),
				Tilt: api.FlTilt{X: span(-10, 10), Y: span(-10, 10)},
			}},
			Pieces: []api.FlPiece{{Name: "case", At: 10, Mass: span(10, 10), Drag: span(2, 2), Kick: api.FlTilt{Z: span(-100, 100)}}},
		},
		Map:   api.HzMap{Corner: api.Place{X: -5000000, Y: -5000000}, Size: 1000, Cols: 10, Rows: 10, People: town()},
		Laws:  []api.HzLaw{{Lethal: 10, Cap: 1000000}, {Lethal: 20, Cap: 500000}},
		Limit: api.HzRisk{Num: 2, Den: 1000},
		Crafts: []api.HzCraft{
			{Name: "ferry", Speed: 9000, Sights: []api.HzSight{{Place: api.Place{X: 5000000, Y: 3000000}, Error: 1000}}},
			{Name: "kite", Speed: 9000, Climb: 100, Low: 500000, High: 2000000, Sights: []api.HzSight{{Place: api.Place{X: -6000000, Y: 3000000}, Height: 1000000, Error: 5000}}},
		},
		Count: api.CtPlan{
			Pad: site(), Stations: []string{"range", "safety"}, Batteries: []api.CtBattery{{Name: "aux", Charge: 1000, Rate: 1}, {Name: "main", Charge: 10000, Rate: 2}},
			Steps: []api.CtStep{
				{Name: "fill", Least: 10, Most: 500},
				{Name: "check", Need: []int{0}, Least: 5, Most: 300, On: battery, Use: battery},
				{Name: "launch", Need: []int{1}, Least: 5, Most: 100, Poll: true, Use: battery, Off: battery},
			},
			Points: []int{1}, Window: span(50, 1500),
		},
		Track: api.TkTask{From: 7, Speed: 30000, Accel: 1500, Trackers: []api.TkTracker{
			{Name: "east", X: 3000000, Error: 500, Grow: 50, Late: 1},
			{Name: "west", X: -500000, Error: 600, Grow: 100},
			{Name: "gps", Error: 300, Late: 2},
		}},
		Destruct: api.DePlan{
			Lines:   []api.DeLine{{A: 1, Keep: 1000000, Line: 4000000}, {B: -1, Keep: 1000000, Line: 4000000}},
			Gravity: span(90, 100), Wait: 2, Blind: 4,
		},
		Margin: 100000, Slack: 50,
	}
	s.Count.Pad.Wait = 5
	return s
}

// changed returns a setup with a change.
func changed(s api.OfSetup, change func(s *api.OfSetup)) api.OfSetup {
	change(&s)
	return s
}

// playOf returns what Play does, without an error.
func playOf(t *testing.T, s api.OfSetup, lines []string) ([]string, api.OfState) {
	t.Helper()
	answers, after, e := officer.Play(s, lines)
	if e != api.OK || len(answers) != len(lines) {
		t.Fatalf("Play of %q = %q, %d", lines, answers, e)
	}
	return answers, after
}

// linesOf returns the lines of a script: of strings like "at 0 clear > unsafe 1", a line and its answer.
func linesOf(script []string) (lines []string) {
	for _, s := range script {
		line, _, _ := strings.Cut(s, " > ")
		lines = append(lines, line)
	}
	return lines
}

// follow plays a script, and returns the state after it.
func follow(t *testing.T, s api.OfSetup, script ...string) api.OfState {
	t.Helper()
	answers, after := playOf(t, s, linesOf(script))
	for i, line := range script {
		if _, want, ok := strings.Cut(line, " > "); ok && answers[i] != want {
			t.Errorf("%d: %q: %q", i, line, answers[i])
		}
	}
	return after
}

// isZero reports whether a result is zero, or an empty list.
func isZero(x any) bool {
	v := reflect.ValueOf(x)
	return v.Kind() == reflect.Slice && v.Len() == 0 || v.IsZero()
}

// same reports whether two results are equal. A nil list and an empty one are.
func same(x, y any) bool {
	a, b := reflect.ValueOf(x), reflect.ValueOf(y)
	if a.Type() != b.Type() {
		return false
	}
	switch a.Kind() {
	case reflect.Slice:
		if a.Len() != b.Len() {
			return false
		}
		for i := range a.Len() {
			if !same(a.Index(i).Interface(), b.Index(i).Interface()) {
				return false
			}
		}
		return true
	case reflect.Struct:
		for i := range a.NumField() {
			if !same(a.Field(i).Interface(), b.Field(i).Interface()) {
				return false
			}
		}
		return true
	}
	return x == y
}

// pick returns one of some values.
func pick[T any](r *rand.Rand, l ...T) T { return l[r.Intn(len(l))] }

// odd returns a number that is often beyond all limits.
func odd(r *rand.Rand) int {
	return pick(r, math.MinInt, math.MinInt+1, -1000000000001, -1000000000000, -2000000001, -20001, -2, -1, 0, 1, 2, 3, 10, 60, 61, 1000, 9999, 10000, 10001, 100000, 100001, 2000000000, 2000000001, 1000000000000, 1000000000001, math.MaxInt-1, math.MaxInt, r.Intn(20), int(r.Uint64()))
}

// ready are the lines of the grand range up to a launch at the tick 60 for which it is clear.
func ready() []string { return readyIn(450, 470) }

// readyIn are such lines with another wind by the mast, and by the balloon.
func readyIn(wind, blue int) []string {
	sound := func(source string, height, x int) string {
		return "at 0 sound " + source + " " + strconv.Itoa(height) + " " + strconv.Itoa(x) + " 10"
	}
	return []string{
		sound("mast", 5000, wind),
		sound("mast", 200000, wind+50),
		sound("mast", 300000, wind+80),
		sound("blue", 50000, blue),
		"at 1 person ann 1 0 -1",
		"at 1 person eve 1 0 1",
		"at 2 aim",
		"at 3 begin fill",
		"at 5 notice 10",
		"at 10 person eve 8 1 -1",
		"at 20 end fill",
		"at 20 begin check",
		"at 25 person ann 5 0 -1",
		"at 40 end check",
		"at 41 go range",
		"at 42 go safety",
		"at 43 begin launch",
		"at 55 clear",
	}
}

// launched are these lines with the launch.
func launched() []string { return append(ready(), "at 60 end launch") }

// scrambled returns lines some of which are left out, are there twice, or are changed a little.
func scrambled(r *rand.Rand, lines []string, times int) []string {
	lines = slices.Clone(lines)
	for range times {
		i := r.Intn(len(lines) + 1)
		switch {
		case i == len(lines) || r.Intn(4) == 0:
			lines = slices.Insert(lines, i, randomLine(r, tickOf(lines, i)))
		case r.Intn(3) == 0:
			lines = slices.Delete(lines, i, i+1)
		case r.Intn(2) == 0:
			lines = slices.Insert(lines, i, lines[i])
		default:
			lines[i] = altered(r, lines[i])
		}
	}
	return lines
}

// tickOf returns a tick for a line that comes before the line with an index.
func tickOf(lines []string, i int) int {
	if i > 0 {
		if x, e := officer.Parse(lines[i-1]); e == api.OK {
			return x.At
		}
	}
	return 0
}

// verbs are those of the chapter, with a name they take in the grand range, and how many numbers they take.
func verbs() []struct {
	word    string
	names   []string
	numbers int
} {
	return []struct {
		word    string
		names   []string
		numbers int
	}{
		{"sound", []string{"mast", "mast", "blue", "bell"}, 3},
		{"sight", []string{"ferry", "kite", "gull"}, 4},
		{"aim", nil, 0},
		{"notice", nil, 1},
		{"cancel", nil, 1},
		{"begin", []string{"fill", "check", "launch", "land"}, 0},
		{"end", []string{"fill", "check", "launch", "launch", "land"}, 0},
		{"hold", nil, 0},
		{"resume", nil, 0},
		{"go", []string{"range", "safety", "public"}, 0},
		{"nogo", []string{"range", "safety", "public"}, 0},
		{"recycle", []string{"check", "check", "fill", "land"}, 0},
		{"charge", []string{"main", "aux", "spare"}, 0},
		{"person", []string{"ann", "bob", "eve", "sam"}, 3},
		{"plot", []string{"east", "west", "gps", "moon"}, 3},
		{"clear", nil, 0},
		{"look", nil, 0},
	}
}

// randomNumbers returns numbers that a verb often takes.
func randomNumbers(r *rand.Rand, verb string) []int {
	switch verb {
	case "sound":
		return []int{r.Intn(300001), pick(r, 440+r.Intn(60), 440+r.Intn(60), 200+r.Intn(600)), r.Intn(60) - 30}
	case "sight":
		return []int{(r.Intn(11) - 5) * 1000000, (r.Intn(11) - 5) * 1000000, pick(r, 0, 0, 700000), r.Intn(5000)}
	case "notice", "cancel":
		return []int{pick(r, 0, 9, 10, 11, 12, 13, 20, 9999)}
	case "person":
		return []int{1 + r.Intn(9), r.Intn(3) - 1, r.Intn(4) - 1}
	case "plot":
		return []int{r.Intn(20000), r.Intn(20000), r.Intn(300000)}
	}
	return nil
}

// randomLine returns a line that is one most often, at a tick or some ticks behind it.
func randomLine(r *rand.Rand, tick int) string {
	v := verbs()[r.Intn(len(verbs()))]
	words := []string{"at", strconv.Itoa(tick + pick(r, 0, 0, 0, 1, 5, r.Intn(30))), v.word}
	if len(v.names) > 0 {
		words = append(words, pick(r, v.names...))
	}
	for _, n := range randomNumbers(r, v.word) {
		words = append(words, strconv.Itoa(n))
	}
	line := strings.Join(words, " ")
	if r.Intn(4) == 0 {
		line = altered(r, line)
	}
	return line
}

// altered returns a line with another word.
func altered(r *rand.Rand, line string) string {
	words := strings.Split(line, " ")
	i := r.Intn(len(words))
	if n, err := strconv.Atoi(words[i]); err == nil {
		words[i] = strconv.Itoa(pick(r, n+1, n+1, n-1, n-1, n+r.Intn(100), -n, odd(r)))
	} else {
		words[i] = pick(r, "at", "check", "launch", "mast", "blue", "ferry", "kite", "range", "safety", "ann", "", "A", "0", "look", "notice", "hold")
	}
	return strings.Join(words, pick(r, " ", " ", " ", " ", " ", " ", "  ", "\t"))
}

// tracked returns plots and looks of a flight from a tick on, which drifts to the east in each tick.
func tracked(r *rand.Rand, from, ticks, drift int) (lines []string) {
	z, v := 0, 0
	for i := range ticks {
		say := func(words ...string) { lines = append(lines, "at "+strconv.Itoa(from+i)+" "+strings.Join(words, " ")) }
		for _, tracker := range []string{"east", "west", pick(r, "gps", "gps", "gps", "gps", "moon")} {
			if r.Intn(6) > 0 {
				say("plot", tracker, strconv.Itoa(drift*i+r.Intn(200)-100), strconv.Itoa(r.Intn(200)-100), strconv.Itoa(z+r.Intn(200)-100))
			}
		}
		if r.Intn(3) > 0 {
			say("look")
		}
		v += pick(r, 900, 1000)
		z += v
	}
	return lines
}

// randomPlay returns lines of the grand range: those up to a launch, and then a flight, more or less changed.
func randomPlay(r *rand.Rand) []string {
	wind := pick(r, 450, 450, 450, 1300, -900)
	lines := append(readyIn(wind, wind+pick(r, 20, 20, 20, 20, 20, 20, 20, 400)), "at 60 end launch")
	if r.Intn(2) == 0 { // without a squib that is armed
		lines = slices.DeleteFunc(lines, func(line string) bool { return line == "at 25 person ann 5 0 -1" })
	}
	for range r.Intn(3) { // something else meanwhile
		i := r.Intn(len(lines))
		tick := tickOf(lines, i)
		for range r.Intn(6) {
			lines = slices.Insert(lines, i, randomLine(r, tick))
		}
	}
	lines = append(lines, tracked(r, 60, r.Intn(12), pick(r, 0, 0, 5000, 20000))...)
	lines = scrambled(r, lines, pick(r, 0, 0, 1, 2, 4, 10))
	return lines[:min(len(lines), api.MaxOfLines)]
}

// randomRange returns the grand range with some changes.
func randomRange(r *rand.Rand) api.OfSetup {
	s := grand()
	for range r.Intn(3) {
		switch r.Intn(13) {
		case 0, 1:
			s.Wind.Sources[0].Life = pick(r, 30, 50, 58)
		case 2:
			s.Wind.Sources[1].Error = pick(r, 0, 1)
		case 3, 4:
			s.Limit = pick(r, api.HzRisk{Num: 1, Den: 1000}, api.HzRisk{Num: 1999, Den: 1000000}, api.HzRisk{})
			s.Limit.Den = max(s.Limit.Den, 1)
		case 5:
			s.Vehicle.Gravity.Lo = pick(r, 0, 1, 90)
		case 6:
			s.Vehicle.Pieces[0].Drag = span(10, 20)
		case 7:
			s.Crafts = s.Crafts[:r.Intn(2)]
		case 8:
			s.Count.Window = pick(r, span(0, 60), span(55, 3055), span(0, 2970), span(0, 100000))
		case 9:
			s.Margin, s.Slack = pick(r, 0, 100000, 2000000000), pick(r, 0, 50, 100000)
		case 10:
			s.Aim.Target.X = pick(r, -1000, 1000)
		case 11:
			s.Aim.Response[1].To = 1000001
		case 12:
			s.Count.Steps[2].Least = pick(r, 17, 18)
		}
	}
	return s
}
