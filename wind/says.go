package wind

import (
	"iter"

	"hangfire/api"
)

// question is about some heights, for a tick, and answered by what is known at now.
type question struct {
	heights   api.Span
	tick, now int
}

// valid reports whether both ticks of a question are ticks.
func (q question) valid() bool { return isTick(q.tick) && isTick(q.now) }

// spans are what is left for each part of a wind: X, and Y.
type spans []api.Span

// anyWind returns all parts of a wind.
func anyWind() spans {
	all := api.Span{Lo: -api.MaxWnWind, Hi: api.MaxWnWind}
	return spans{all, all}
}

// narrow leaves only what differs from a sounding by at most its doubt.
func (l spans) narrow(s api.WnSounding, doubt int) {
	for i, part := range [...]int{s.X, s.Y} {
		l[i].Lo = max(l[i].Lo, part-doubt)
		l[i].Hi = min(l[i].Hi, part+doubt)
	}
}

// empty reports whether no number is left for a part.
func (l spans) empty() bool {
	for _, s := range l {
		if s.Lo > s.Hi {
			return true
		}
	}
	return false
}

// known yields the indices of the soundings that are known at a tick, ascending.
func known(t api.WnTask, now int) iter.Seq[int] {
	return func(yield func(int) bool) {
		for i, s := range t.Soundings {
			by := t.Sources[s.Source]
			if s.Tick+by.Late <= now && now-s.Tick <= by.Life && !yield(i) {
				return
			}
		}
	}
}

// doubt returns the greatest doubt of a sounding about any of some heights at a tick.
func doubt(t api.WnTask, s api.WnSounding, heights api.Span, tick int) int {
	age := begun(distance(s.Tick, tick), api.WnMinute)
	far := begun(max(distance(s.Height, heights.Lo), distance(s.Height, heights.Hi)), api.WnStep)
	return t.Sources[s.Source].Error + t.Age*age + t.Shear*far
}

// distance returns the size of a difference.
func distance(a, b int) int { return max(a-b, b-a) }

// begun returns how many parts of a size a length has, begun ones included.
func begun(length, size int) int { return (length + size - 1) / size }

// heightsOf returns the heights of a band.
func heightsOf(t api.WnTask, band int) api.Span {
	from := 0
	if band > 0 {
		from = t.Cuts[band-1]
	}
	return api.Span{Lo: from, Hi: t.Cuts[band] - 1}
}

// leave returns what the known soundings of the chosen sources leave, and whether there are any. Nothing is left as soon as one of these sources contradicts itself.
func leave(t api.WnTask, q question, chosen func(source int) bool) (left spans, some bool) {
	left = anyWind()
	some = hear(t, q, chosen, left.narrow)
	return left, some
}

// hear passes each known sounding of the chosen sources on, with its doubt, and reports whether there are any.
func hear(t api.WnTask, q question, chosen func(source int) bool, pass func(s api.WnSounding, doubt int)) (some bool) {
	for i := range known(t, q.now) {
		if s := t.Soundings[i]; chosen(s.Source) {
			pass(s, doubt(t, s, q.heights, q.tick))
			some = true
		}
	}
	return some
}

// agrees reports whether the chosen sources agree.
func agrees(t api.WnTask, q question, chosen func(source int) bool) bool {
	left, _ := leave(t, q, chosen)
	return !left.empty()
}

// everyone chooses all sources.
func everyone(int) bool { return true }

// only chooses one source.
func only(one int) func(int) bool { return func(source int) bool { return source == one } }

// without chooses all sources but one.
func without(one int) func(int) bool { return func(source int) bool { return source != one } }

// culprits returns the sources that are to blame, ascending, where the sources do not agree.
func culprits(t api.WnTask, q question) []int {
	var l []int
	for i := range t.Sources {
		if agrees(t, q, without(i)) {
			l = append(l, i)
		}
	}
	return l
}

// answer returns what the sources that are left leave, and whether there is an answer.
func answer(t api.WnTask, q question) (x, y api.Span, ok bool) {
	left, _ := leave(t, q, everyone)
	if left.empty() {
		l := culprits(t, q)
		if len(l) != 1 {
			return api.Span{}, api.Span{}, false
		}
		left, _ = leave(t, q, without(l[0]))
	}
	return left[0], left[1], true
}

// Known returns the soundings that are known at a tick.
func Known(t api.WnTask, now int) ([]int, api.Errno) {
	if _, _, e := Check(t); e != api.OK {
		return nil, e
	}
	if !isTick(now) {
		return nil, api.ErrRange
	}
	var l []int
	for i := range known(t, now) {
		l = append(l, i)
	}
	return l, api.OK
}

// Doubt returns by how much the wind at a height and a tick may differ from a sounding.
func Doubt(t api.WnTask, sounding, height, tick int) (int, api.Errno) {
	if _, _, e := Check(t); e != api.OK {
		return 0, e
	}
	if sounding < 0 || sounding >= len(t.Soundings) {
		return 0, api.ErrNone
	}
	if !isHeight(height) || !isTick(tick) {
		return 0, api.ErrRange
	}
	return doubt(t, t.Soundings[sounding], api.Span{Lo: height, Hi: height}, tick), api.OK
}

// Says returns what a source says of the wind in a band at a tick.
func Says(t api.WnTask, source, band, tick, now int) (x, y api.Span, e api.Errno) {
	if _, _, e := Check(t); e != api.OK {
		return api.Span{}, api.Span{}, e
	}
	if source < 0 || source >= len(t.Sources) {
		return api.Span{}, api.Span{}, api.ErrNone
	}
	q, e := askBand(t, band, tick, now)
	if e != api.OK {
		return api.Span{}, api.Span{}, e
	}
	left, some := leave(t, q, only(source))
	if !some {
		return api.Span{}, api.Span{}, api.ErrNone
	}
	if left.empty() {
		return api.Span{}, api.Span{}, api.ErrDown
	}
	return left[0], left[1], api.OK
}

// Blame returns the sources that are to blame in a band, and whether all agree there.
func Blame(t api.WnTask, band, tick, now int) (l []int, agree bool, e api.Errno) {
	if _, _, e := Check(t); e != api.OK {
		return nil, false, e
	}
	q, e := askBand(t, band, tick, now)
	if e != api.OK {
		return nil, false, e
	}
	if agrees(t, q, everyone) {
		return nil, true, api.OK
	}
	return culprits(t, q), false, api.OK
}

// askBand returns the question about a band, or the error of the band or of a tick.
func askBand(t api.WnTask, band, tick, now int) (question, api.Errno) {
	if band < 0 || band >= len(t.Cuts) {
		return question{}, api.ErrNone
	}
	q := question{heights: heightsOf(t, band), tick: tick, now: now}
	if !q.valid() {
		return question{}, api.ErrRange
	}
	return q, api.OK
}

// At returns the wind at a height and a tick.
func At(t api.WnTask, height, tick, now int) (x, y api.Span, e api.Errno) {
	if _, _, e := Check(t); e != api.OK {
		return api.Span{}, api.Span{}, e
	}
	q := question{heights: api.Span{Lo: height, Hi: height}, tick: tick, now: now}
	if !isHeight(height) || !q.valid() {
		return api.Span{}, api.Span{}, api.ErrRange
	}
	x, y, ok := answer(t, q)
	if !ok {
		return api.Span{}, api.Span{}, api.ErrDown
	}
	return x, y, api.OK
}

// Bands returns the wind in all bands at a tick.
func Bands(t api.WnTask, tick, now int) ([]api.WnBand, api.Errno) {
	if _, _, e := Check(t); e != api.OK {
		return nil, e
	}
	q := question{tick: tick, now: now}
	if !q.valid() {
		return nil, api.ErrRange
	}
	var l []api.WnBand
	for i, to := range t.Cuts {
		q.heights = heightsOf(t, i)
		x, y, ok := answer(t, q)
		if !ok {
			return nil, api.ErrDown
		}
		l = append(l, api.WnBand{From: q.heights.Lo, To: to, X: x, Y: y})
	}
	return l, api.OK
}
