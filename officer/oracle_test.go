package officer_test

import (
	"math/big"
	"math/rand"
	"regexp"
	"slices"
	"strconv"
	"strings"
	"testing"

	"hangfire/aim"
	"hangfire/api"
	"hangfire/count"
	"hangfire/destruct"
	"hangfire/flight"
	"hangfire/hazard"
	"hangfire/officer"
	"hangfire/track"
	"hangfire/wind"
)

// witness is a second reading of the chapter. It keeps no desk, but only the lines that have done something, and works out anew what there is after them.
type witness struct {
	setup api.OfSetup
	done  []api.OfLine
}

// upTo returns the witness of what was before the line with an index.
func (w witness) upTo(i int) witness { return witness{w.setup, w.done[:i]} }

func (w witness) now() int {
	if len(w.done) == 0 {
		return 0
	}
	return w.done[len(w.done)-1].At
}

func (w witness) winds() api.WnTask {
	task := w.setup.Wind
	task.Soundings = slices.Clone(task.Soundings)
	for _, x := range w.done {
		for i, s := range task.Sources {
			if x.Verb == api.OfSound && s.Name == x.Name {
				task.Soundings = append(task.Soundings, api.WnSounding{Source: i, Tick: x.At, Height: x.Numbers[0], X: x.Numbers[1], Y: x.Numbers[2]})
			}
		}
	}
	return task
}

func (w witness) bands(tick int) ([]api.WnBand, api.Errno) { return wind.Bands(w.winds(), tick, tick) }

func (w witness) crafts() (l []api.HzCraft) {
	for _, c := range w.setup.Crafts {
		c.Sights = slices.Clone(c.Sights)
		for _, x := range w.done {
			if x.Verb == api.OfSight && x.Name == c.Name {
				c.Sights = append(c.Sights, api.HzSight{Tick: x.At, Place: api.Place{X: x.Numbers[0], Y: x.Numbers[1]}, Height: x.Numbers[2], Error: x.Numbers[3]})
			}
		}
		l = append(l, c)
	}
	return l
}

// best returns the setting with the least miss of those that are allowed by bands, or the error.
func best(task api.AmTask, bands []api.WnBand) (int, api.Errno) {
	allowed, e := aim.Allowed(task, bands)
	if e != api.OK {
		return none, e
	}
	found, least := none, 0
	for _, i := range allowed {
		if miss, _ := aim.Miss(task, bands, i); found == none || miss < least {
			found, least = i, miss
		}
	}
	if found == none {
		return none, api.ErrDown
	}
	return found, api.OK
}

func (w witness) setting() int {
	for i := len(w.done) - 1; i >= 0; i-- {
		if w.done[i].Verb == api.OfAim {
			bands, _ := w.upTo(i).bands(w.done[i].At)
			setting, _ := best(w.setup.Aim, bands)
			return setting
		}
	}
	return none
}

func (w witness) impacts(tick int) ([]api.FlImpact, api.Errno) {
	setting := w.setting()
	if setting == none {
		return nil, api.ErrDown
	}
	bands, e := w.bands(tick)
	if e != api.OK {
		return nil, e
	}
	return flight.Impacts(w.setup.Vehicle, w.setup.Dirs[setting], bands)
}

// km returns the kilometre in which some mm are, or the next one.
func km(mm int, up bool) int {
	n := mm / 1000000
	for n*1000000 > mm {
		n--
	}
	if up && n*1000000 < mm {
		n++
	}
	return n
}

// warnings returns the notices of a line, or the error.
func (w witness) warnings(x api.OfLine) (l []string, e api.Errno) {
	impacts, e := w.impacts(x.At)
	if e != api.OK {
		return nil, e
	}
	s := w.setup
	for i, y := range impacts {
		from, until := y.At.Lo+s.Count.Window.Lo, y.At.Hi+s.Count.Window.Hi
		number := x.Numbers[0] + i
		if until > api.MaxTick || until-from > 3000 || number < 1 || number > 9999 {
			return nil, api.ErrRange
		}
		sides := []int{km(y.Area.X.Lo-s.Margin, false), km(y.Area.X.Hi+s.Margin, true), km(y.Area.Y.Lo-s.Margin, false), km(y.Area.Y.Hi+s.Margin, true)}
		if slices.Min(sides) < -3000 || slices.Max(sides) > 3000 {
			return nil, api.ErrLong
		}
		words := []any{"NOTICE", number, "FROM", max(0, from-s.Slack), "UNTIL", min(api.MaxTick, until+s.Slack), "X", sides[0], sides[1], "Y", sides[2], sides[3]}
		l = append(l, sentence(words...))
	}
	return l, api.OK
}

// sentence returns words and numbers with single spaces between them.
func sentence(words ...any) string {
	var l []string
	for _, x := range words {
		switch y := x.(type) {
		case string:
			l = append(l, y)
		case int:
			l = append(l, strconv.Itoa(y))
		}
	}
	return strings.Join(l, " ")
}

func (w witness) notices() (l []string) {
	for i, x := range w.done {
		switch x.Verb {
		case api.OfNotice:
			more, _ := w.upTo(i).warnings(x)
			l = append(l, more...)
		case api.OfCancel:
			l = append(l, sentence("CANCEL", x.Numbers[0]))
		}
	}
	return l
}

// index returns the index of a name, or -1.
func index[T any](l []T, name string, nameOf func(T) string) int {
	for i, x := range l {
		if nameOf(x) == name {
			return i
		}
	}
	return none
}

// event returns the event of a line, and whether there is what it names.
func (w witness) event(x api.OfLine) (v api.CtEvent, ok bool) {
	p := w.setup.Count
	step := index(p.Steps, x.Name, func(s api.CtStep) string { return s.Name })
	station := index(p.Stations, x.Name, func(s string) string { return s })
	battery := index(p.Batteries, x.Name, func(b api.CtBattery) string { return b.Name })
	person := index(p.Pad.People, x.Name, func(p api.PdPerson) string { return p.Name })
	point := none
	for i, s := range p.Points {
		if s == step {
			point = i
		}
	}
	kinds := map[int][2]int{
		api.OfBegin: {api.CtBegin, step}, api.OfEnd: {api.CtEnd, step}, api.OfHold: {api.CtHold, 0}, api.OfResume: {api.CtResume, 0}, api.OfGo: {api.CtGo, station},
		api.OfNoGo: {api.CtNoGo, station}, api.OfRecycle: {api.CtRecycle, point}, api.OfCharge: {api.CtCharge, battery}, api.OfPerson: {api.CtPerson, 0},
	}
	k, ok := kinds[x.Verb]
	if !ok || k[1] == none || x.Verb == api.OfPerson && person == none {
		return api.CtEvent{}, false
	}
	v = api.CtEvent{At: x.At, Kind: k[0], What: k[1]}
	if x.Verb == api.OfPerson {
		v.Act = api.PdAct{At: x.At, Kind: x.Numbers[0], Who: person, What: x.Numbers[1], With: x.Numbers[2]}
	}
	return v, true
}

func (w witness) events() (l []api.CtEvent) {
	for _, x := range w.done {
		if v, ok := w.event(x); ok {
			l = append(l, v)
		}
	}
	return l
}

func (w witness) isLaunch(x api.OfLine) bool {
	return x.Verb == api.OfEnd && x.Name == w.setup.Count.Steps[len(w.setup.Count.Steps)-1].Name
}

func (w witness) launched() int {
	for _, x := range w.done {
		if w.isLaunch(x) {
			return x.At
		}
	}
	return none
}

func (w witness) track() api.TkTask {
	task := w.setup.Track
	if at := w.launched(); at != none {
		task.From = at
	}
	for _, x := range w.done {
		if i := index(task.Trackers, x.Name, func(k api.TkTracker) string { return k.Name }); x.Verb == api.OfPlot && i != none {
			task.Plots = append(task.Plots, api.TkPlot{Tracker: i, Tick: x.At, X: x.Numbers[0], Y: x.Numbers[1], Z: x.Numbers[2]})
		}
	}
	return task
}

// look returns why a flight has to be ended at a tick, and by which line.
func (w witness) look(tick int) (why, line int) {
	box, _, e := destruct.Used(w.setup.Destruct, w.track(), tick)
	if e != api.OK {
		return api.DeWhyBlind, none
	}
	reach, _, e := destruct.Fall(w.setup.Destruct, box)
	if e != api.OK {
		return api.DeWhyFar, none
	}
	rooms, _ := destruct.Side(w.setup.Destruct, reach)
	for i, room := range rooms {
		if room < 0 {
			return api.DeWhyLine, i
		}
	}
	return 0, none
}

func (w witness) ended() int {
	for i, x := range w.done {
		if x.Verb == api.OfLook {
			if why, _ := w.upTo(i).look(x.At); why != 0 {
				return x.At
			}
		}
	}
	return none
}

// risky reports whether the risk of impacts is too great, or not known.
func (w witness) risky(impacts []api.FlImpact) bool {
	total := new(big.Rat)
	for i, x := range impacts {
		_, people, e := hazard.Most(w.setup.Map, x.Area, w.setup.Laws[i])
		if e != api.OK {
			return true
		}
		harmed := big.NewRat(int64(people), 1000000)
		harmed.Mul(harmed, big.NewRat(int64(w.setup.Laws[i].Lethal), int64(w.setup.Map.Size*w.setup.Map.Size)))
		total.Add(total, harmed)
	}
	return total.Cmp(big.NewRat(int64(w.setup.Limit.Num), int64(w.setup.Limit.Den))) > 0
}

func meet(a, b api.Span) bool { return a.Lo <= b.Hi && b.Lo <= a.Hi }

// inTheWay reports whether a craft can be in an area, and a span of heights, at one of some ticks, or it is not known where it can be.
func (w witness) inTheWay(a api.Area, heights, ticks api.Span) bool {
	for _, c := range w.crafts() {
		for tick := ticks.Lo; tick <= ticks.Hi; tick++ {
			there, height, e := hazard.Where(c, tick)
			if e != api.OK || meet(there.X, a.X) && meet(there.Y, a.Y) && meet(height, heights) {
				return true
			}
		}
	}
	return false
}

// crossed reports whether a craft can be where something comes down, or in the way of the flight, from a tick on.
func (w witness) crossed(tick int, impacts []api.FlImpact, states []api.FlState) bool {
	for _, x := range impacts {
		if tick+x.At.Hi > api.MaxTick || w.inTheWay(x.Area, span(0, api.MaxPlace), span(tick+x.At.Lo, tick+x.At.Hi)) {
			return true
		}
	}
	for i, s := range states {
		if w.inTheWay(api.Area{X: s.X, Y: s.Y}, s.Z, span(tick+i, tick+i)) {
			return true
		}
	}
	return false
}

// warned reports whether an impact is in a notice, from a tick on.
func (w witness) warned(tick int, x api.FlImpact) bool {
	force := map[int]api.HzNotice{}
	for _, s := range w.notices() {
		n, _ := hazard.Parse(s)
		if delete(force, n.Number); !n.Cancel {
			force[n.Number] = n
		}
	}
	lies := func(s, in api.Span, unit int) bool { return s.Lo >= unit*in.Lo && s.Hi <= unit*in.Hi }
	for _, n := range force {
		if lies(span(tick+x.At.Lo, tick+x.At.Hi), span(n.From, n.Until), 1) && lies(x.Area.X, n.X, 1000000) && lies(x.Area.Y, n.Y, 1000000) {
			return true
		}
	}
	return false
}

// why returns why it is not clear at a tick.
func (w witness) why(tick int) int {
	setting := w.setting()
	if setting == none {
		return 1
	}
	bands, e := w.bands(tick)
	if e != api.OK {
		return 2
	}
	a, e := aim.Impact(w.setup.Aim, bands, setting)
	if in := w.setup.Aim.Allowed; e != api.OK || a.X.Lo < in.X.Lo || a.X.Hi > in.X.Hi || a.Y.Lo < in.Y.Lo || a.Y.Hi > in.Y.Hi {
		return 3
	}
	impacts, e := w.impacts(tick)
	if e != api.OK {
		return 4
	}
	if w.risky(impacts) {
		return 5
	}
	states, _ := flight.Fly(w.setup.Vehicle, w.setup.Dirs[setting], bands, impacts[len(impacts)-1].At.Hi)
	if w.crossed(tick, impacts, states) {
		return 6
	}
	for _, x := range impacts {
		if !w.warned(tick, x) {
			return 7
		}
	}
	return 0
}

const (
	nameForm   = ` ([a-z][a-z0-9-]{0,23})`
	numberForm = ` (0|-?[1-9][0-9]*)`
)

// lineForms are the forms of lines, by their verbs.
var lineForms = func() (l []*regexp.Regexp) {
	for _, v := range verbs() {
		form := `\Aat` + numberForm + ` ` + v.word
		if len(v.names) > 0 {
			form += nameForm
		}
		l = append(l, regexp.MustCompile(form+strings.Repeat(numberForm, v.numbers)+`\z`))
	}
	return l
}()

// read returns a line, or an error.
func read(line string) (api.OfLine, api.Errno) {
	if len(line) > 120 {
		return api.OfLine{}, api.ErrLong
	}
	for i, v := range verbs() {
		m := lineForms[i].FindStringSubmatch(line)
		if m == nil {
			continue
		}
		x := api.OfLine{Verb: i + 1}
		words := m[2:]
		if len(v.names) > 0 {
			x.Name, words = m[2], m[3:]
		}
		var e api.Errno
		if x.At, e = readNumber(m[1], 0, 100000); e != api.OK {
			return api.OfLine{}, e
		}
		for _, word := range words {
			n, e := readNumber(word, -1000000000000, 1000000000000)
			if e != api.OK {
				return api.OfLine{}, e
			}
			x.Numbers = append(x.Numbers, n)
		}
		return x, api.OK
	}
	return api.OfLine{}, api.ErrForm
}

// readNumber returns a number that is from lo to hi.
func readNumber(word string, lo, hi int64) (int, api.Errno) {
	n, _ := new(big.Int).SetString(word, 10)
	if n.Cmp(big.NewInt(lo)) < 0 || n.Cmp(big.NewInt(hi)) > 0 {
		return 0, api.ErrRange
	}
	return int(n.Int64()), api.OK
}

// no returns the answer to a line that has an error, or is refused, and "" if there is neither.
func no(e api.Errno) string {
	if e == api.OK {
		return ""
	}
	return sentence("no", int(e))
}

// answer returns the answer to a line, and whether the line does something.
func (w witness) answer(x api.OfLine) (answer string, done bool) {
	launched := w.launched() != none
	flying := launched && w.ended() == none
	switch x.Verb {
	case api.OfSound, api.OfSight:
	case api.OfPlot, api.OfLook:
		if !flying {
			return no(api.ErrDown), false
		}
	default:
		if launched {
			return no(api.ErrDown), false
		}
	}
	after := witness{w.setup, append(slices.Clone(w.done), x)}
	switch x.Verb {
	case api.OfAim:
		bands, e := w.bands(x.At)
		if e != api.OK {
			return no(e), false
		}
		setting, e := best(w.setup.Aim, bands)
		return cmpOr(no(e), sentence("ok", setting))
	case api.OfClear:
		if why := w.why(x.At); why != 0 {
			return sentence("unsafe", why), false
		}
		return "clear", true
	case api.OfLook:
		if why, line := w.look(x.At); why != 0 {
			return sentence("ended", why, line), true
		}
		return "goes", true
	case api.OfSound:
		if slices.ContainsFunc(w.setup.Wind.Sources, func(s api.WnSource) bool { return s.Name == x.Name }) {
			_, _, e := wind.Check(after.winds())
			return cmpOr(no(e), "ok")
		}
	case api.OfSight:
		for _, c := range after.crafts() {
			if c.Name == x.Name {
				_, e := hazard.CheckCraft(c)
				return cmpOr(no(e), "ok")
			}
		}
	case api.OfPlot:
		if task := after.track(); len(task.Plots) > len(w.track().Plots) {
			_, _, e := track.Check(task)
			return cmpOr(no(e), "ok")
		}
	case api.OfNotice, api.OfCancel:
		if x.Verb == api.OfNotice {
			if _, e := w.warnings(x); e != api.OK {
				return no(e), false
			}
		}
		_, e := hazard.Force(after.notices(), x.At)
		return cmpOr(no(e), "ok")
	default:
		return w.counted(x)
	}
	return no(api.ErrNone), false
}

// cmpOr returns the answer no, if there is one, and otherwise the other one, of a line that does something.
func cmpOr(refused, answer string) (string, bool) {
	if refused != "" {
		return refused, false
	}
	return answer, true
}

// counted returns the answer to a line of the countdown, and whether the line does something.
func (w witness) counted(x api.OfLine) (answer string, done bool) {
	v, ok := w.event(x)
	if !ok {
		return no(api.ErrNone), false
	}
	if w.isLaunch(x) {
		if why := w.why(x.At); why != 0 {
			return sentence("unsafe", why), false
		}
	}
	_, why, e := count.Play(w.setup.Count, append(w.events(), v))
	if e != api.OK {
		return no(e), false
	}
	return cmpOr(no(why[len(why)-1]), "ok")
}

// watch returns the answers to lines, and the state after them.
func watch(s api.OfSetup, lines []string) (answers []string, after api.OfState) {
	w := witness{setup: s}
	for _, line := range lines {
		x, e := read(line)
		answer, done := "bad", false
		switch {
		case e != api.OK:
		case x.At < w.now():
			answer = "no 180"
		default:
			answer, done = w.answer(x)
		}
		if answers = append(answers, answer); done {
			w.done = append(w.done, x)
		}
	}
	after = api.OfState{Now: w.now(), Setting: w.setting(), Launched: w.launched(), Ended: w.ended(), Notices: w.notices()}
	after.Count, _, _ = count.Play(s.Count, w.events())
	after.Soundings, after.Plots = len(w.winds().Soundings), len(w.track().Plots)
	for _, c := range w.crafts() {
		after.Sights += len(c.Sights)
	}
	return answers, after
}

// P12.3, P12.4: the answers, the state, and what Impacts and Clear return, are those of the second reading.
func TestSecondReading(t *testing.T) {
	r := rand.New(rand.NewSource(1203))
	seen := map[string]int{}
	for range 700 {
		s, lines := randomRange(r), randomPlay(r)
		answers, after := playOf(t, s, lines)
		want, wanted := watch(s, lines)
		for i := range lines {
			if answers[i] != want[i] {
				t.Fatalf("%q: %q, and not %q, in %q of %+v", lines[i], answers[i], want[i], lines, s)
			}
			words := strings.Split(lines[i]+" - -", " ")
			seen[words[2]+" > "+answers[i]]++
		}
		if !same(after, wanted) {
			t.Fatalf("%+v, and not %+v, after %q of %+v", after, wanted, lines, s)
		}
		cut := lines[:r.Intn(len(lines)+1)]
		tick := pick(r, 0, 5, 55, 60, 100, 500, 1000, 99000, 99800, 100000, 100001)
		seen["Clear > "+lookAhead(t, s, cut, tick)]++
	}
	for _, s := range []string{
		"clear > clear", "clear > unsafe 1", "clear > unsafe 2", "clear > unsafe 3", "clear > unsafe 4", "clear > unsafe 5", "clear > unsafe 6", "clear > unsafe 7",
		"end > ok", "end > unsafe 1", "end > unsafe 2", "end > unsafe 3", "end > unsafe 4", "end > unsafe 5", "end > unsafe 6", "end > unsafe 7", "end > no 9", "end > no 186", "end > no 4",
		"look > goes", "look > ended 1 0", "look > ended 2 -1", "look > no 9", "look > no 180", "plot > ok", "plot > no 5", "plot > no 4",
		"aim > ok 0", "aim > ok 1", "aim > ok 2", "aim > no 9", "notice > ok", "notice > no 9", "notice > no 7", "notice > no 3", "cancel > ok", "cancel > no 4", "cancel > no 7",
		"sound > ok", "sound > no 2", "sound > no 5", "sound > no 4", "sight > ok", "sight > no 2", "sight > no 4", "recycle > ok", "recycle > no 4", "recycle > no 188", "recycle > no 181",
		"go > ok", "go > no 181", "nogo > ok", "hold > ok", "resume > ok", "charge > ok", "charge > no 181", "person > ok", "person > no 171", "person > no 2", "begin > no 182", "begin > no 184", "hold > bad", "look > bad",
		"Clear > 0", "Clear > 1", "Clear > 2", "Clear > 3", "Clear > 4", "Clear > 5", "Clear > 6", "Clear > 7", "Clear > no 7", "Clear > no 9",
	} {
		if seen[s] < 2 {
			t.Errorf("%q: %d times", s, seen[s])
		}
	}
}

// lookAhead compares what Impacts and Clear return with the second reading, and returns the latter.
func lookAhead(t *testing.T, s api.OfSetup, lines []string, tick int) string {
	t.Helper()
	w := witness{setup: s}
	for _, line := range lines {
		if x, e := read(line); e == api.OK && x.At >= w.now() {
			if _, done := w.answer(x); done {
				w.done = append(w.done, x)
			}
		}
	}
	impacts, e := officer.Impacts(s, lines, tick)
	why, f := officer.Clear(s, lines, tick)
	want := api.OK
	switch {
	case tick < w.now() || tick > 100000:
		want = api.ErrRange
	case w.launched() != none:
		want = api.ErrDown
	}
	if want != api.OK {
		if e != want || f != want || len(impacts) > 0 || why != 0 {
			t.Fatalf("%v, %d, %d, %d, and not %d, at %d after %q of %+v", impacts, e, why, f, want, tick, lines, s)
		}
		return no(want)
	}
	l, g := w.impacts(tick)
	if !slices.Equal(impacts, l) || e != g || why != w.why(tick) || f != api.OK {
		t.Fatalf("%v, %d, %d, %d, and not %v, %d, %d, at %d after %q of %+v", impacts, e, why, f, l, g, w.why(tick), tick, lines, s)
	}
	return strconv.Itoa(why)
}
