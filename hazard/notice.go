package hazard

import (
	"iter"
	"strconv"
	"strings"

	"hangfire/api"
)

// The forms of notices, word by word: # is a number from 0 on, and ~ one that may also be below 0.
const (
	warning      = "NOTICE # FROM # UNTIL # X ~ ~ Y ~ ~"
	cancellation = "CANCEL #"
	natural      = "#"
	whole        = "~"
)

// words yields the index of each word of a string, and the word. Where two spaces are not single there is an empty word.
func words(s string) iter.Seq2[int, string] {
	return func(yield func(int, string) bool) {
		rest, more := s, true
		for i := 0; more; i++ {
			var word string
			word, rest, more = strings.Cut(rest, " ")
			if !yield(i, word) {
				return
			}
		}
	}
}

// write returns the string that has a form, with these numbers.
func write(form string, numbers ...int) string {
	var l []string
	for _, word := range words(form) {
		if word == natural || word == whole {
			word, numbers = strconv.Itoa(numbers[0]), numbers[1:]
		}
		l = append(l, word)
	}
	return strings.Join(l, " ")
}

// demand panics if a string is not of the form that it is read by.
func demand(so bool) {
	if !so {
		panic("another form")
	}
}

// digits returns a number that is written in digits alone; the greatest int instead of one that is greater.
func digits(s string) int {
	demand(s == "0" || s != "" && s[0] != '0')
	for i := range len(s) {
		demand(s[i] >= '0' && s[i] <= '9')
	}
	n, _ := strconv.Atoi(s)
	return n
}

// signed returns a number that may have a minus sign, but for 0.
func signed(s string) int {
	s, minus := strings.CutPrefix(s, "-")
	n := digits(s)
	if !minus {
		return n
	}
	demand(n != 0)
	return -n
}

// read returns the numbers of a string. It panics if the string is not of the form.
func read(form, s string) []int {
	var numbers []int
	wanted := strings.Split(form, " ")
	next := 0
	for i, word := range words(s) {
		demand(i < len(wanted))
		switch wanted[i] {
		case natural:
			numbers = append(numbers, digits(word))
		case whole:
			numbers = append(numbers, signed(word))
		default:
			demand(word == wanted[i])
		}
		next = i + 1
	}
	demand(next == len(wanted))
	return numbers
}

// parse returns the notice of a string, unchecked, and whether the string is of one of the two forms.
func parse(s string) (x api.HzNotice, ok bool) {
	defer func() { ok = recover() == nil }()
	if strings.HasPrefix(s, "CANCEL") {
		return api.HzNotice{Number: read(cancellation, s)[0], Cancel: true}, true
	}
	l := read(warning, s)
	return api.HzNotice{Number: l[0], From: l[1], Until: l[2], X: api.Span{Lo: l[3], Hi: l[4]}, Y: api.Span{Lo: l[5], Hi: l[6]}}, true
}

func isNumber(n int) bool { return isIn(n, 1, api.MaxHzNumber) }

func isKm(s api.Span) bool { return lies(s, -api.MaxHzKm, api.MaxHzKm) }

// isNotice reports whether the numbers of a notice are as stated.
func isNotice(x api.HzNotice) bool {
	return isNumber(x.Number) && lies(api.Span{Lo: x.From, Hi: x.Until}, 0, api.MaxTick) && isKm(x.X) && isKm(x.Y)
}

// Parse reads a notice.
func Parse(s string) (api.HzNotice, api.Errno) {
	x, ok := parse(s)
	if !ok {
		return api.HzNotice{}, api.ErrForm
	}
	if !isNotice(x) {
		return api.HzNotice{}, api.ErrRange
	}
	return x, api.OK
}

// inKm returns the least span of km that has a span of mm, wider by a margin.
func inKm(s api.Span, margin int) api.Span {
	return api.Span{Lo: quotient(s.Lo-margin, kilometre), Hi: -quotient(-s.Hi-margin, kilometre)}
}

// Notice returns the notice of an impact.
func Notice(x api.FlImpact, number, margin, slack int) (string, api.Errno) {
	if !isImpact(x) || !isNumber(number) || !isIn(margin, 0, api.MaxPlace) || !isTick(slack) {
		return "", api.ErrRange
	}
	from, until := max(x.At.Lo-slack, 0), min(x.At.Hi+slack, api.MaxTick)
	east, north := inKm(x.Area.X, margin), inKm(x.Area.Y, margin)
	if !isKm(east) || !isKm(north) {
		return "", api.ErrLong
	}
	return write(warning, number, from, until, east.Lo, east.Hi, north.Lo, north.Hi), api.OK
}
