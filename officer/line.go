package officer

import (
	"iter"
	"slices"
	"strconv"
	"strings"

	"hangfire/api"
	"hangfire/wind"
)

// first is the word with which each line begins.
const first = "at"

// maxNumber is the greatest size of a number of a line.
const maxNumber = 1000000000000

// form is how a verb is written: its word, whether a name follows, and how many numbers follow then.
type form struct {
	word    string
	named   bool
	numbers int
}

// forms returns the forms of all verbs.
func forms() [api.OfLook + 1]form {
	return [...]form{
		api.OfSound:   {"sound", true, 3},
		api.OfSight:   {"sight", true, 4},
		api.OfAim:     {"aim", false, 0},
		api.OfNotice:  {"notice", false, 1},
		api.OfCancel:  {"cancel", false, 1},
		api.OfBegin:   {"begin", true, 0},
		api.OfEnd:     {"end", true, 0},
		api.OfHold:    {"hold", false, 0},
		api.OfResume:  {"resume", false, 0},
		api.OfGo:      {"go", true, 0},
		api.OfNoGo:    {"nogo", true, 0},
		api.OfRecycle: {"recycle", true, 0},
		api.OfCharge:  {"charge", true, 0},
		api.OfPerson:  {"person", true, 3},
		api.OfPlot:    {"plot", true, 3},
		api.OfClear:   {"clear", false, 0},
		api.OfLook:    {"look", false, 0},
	}
}

func isVerb(n int) bool { return isIn(n, api.OfSound, api.OfLook) }

// words yields the index of each word of a line, and the word. Where two spaces are not single there is an empty word.
func words(line string) iter.Seq2[int, string] {
	return func(yield func(int, string) bool) {
		rest, more := line, true
		for i := 0; more; i++ {
			var word string
			word, rest, more = strings.Cut(rest, " ")
			if !yield(i, word) {
				return
			}
		}
	}
}

// number returns the number that a word is, and whether it has the form of one. It is the greatest, or the least int, if it is beyond that.
func number(word string) (n int, ok bool) {
	digits := strings.TrimPrefix(word, "-")
	if digits == "" || digits[0] == '0' && word != "0" {
		return 0, false
	}
	for i := range len(digits) {
		if !isIn(int(digits[i]), '0', '9') {
			return 0, false
		}
	}
	n, _ = strconv.Atoi(word)
	return n, true
}

// reading is a line as far as it is read, and the form of its verb.
type reading struct {
	api.OfLine
	form
}

// take reads the word with an index, and reports whether a line can have it there.
func (r *reading) take(i int, word string) (ok bool) {
	switch {
	case i == 0:
		return word == first
	case i == 1:
		r.At, ok = number(word)
	case i == 2:
		ok = r.takeVerb(word)
	case i == 3 && r.named:
		r.Name, ok = word, wind.Name(word)
	default:
		var n int
		n, ok = number(word)
		r.Numbers = append(r.Numbers, n)
	}
	return ok
}

// takeVerb reads the word of a verb, and reports whether it is one.
func (r *reading) takeVerb(word string) bool {
	all := forms()
	verb := slices.IndexFunc(all[:], func(f form) bool { return f.word == word })
	if !isVerb(verb) { // an empty word is that of no verb
		return false
	}
	r.Verb, r.form = verb, all[verb]
	return true
}

// isWhole reports whether nothing is missing, and nothing is too much.
func (r *reading) isWhole() bool {
	return isVerb(r.Verb) && (r.Name != "") == r.named && len(r.Numbers) == r.numbers
}

// isInRange reports whether the numbers of a line are as stated.
func isInRange(x api.OfLine) bool {
	isBeyond := func(n int) bool { return !isIn(n, -maxNumber, maxNumber) }
	return isTick(x.At) && !slices.ContainsFunc(x.Numbers, isBeyond)
}

// Parse reads a line.
func Parse(line string) (api.OfLine, api.Errno) {
	if len(line) > api.MaxOfBytes {
		return api.OfLine{}, api.ErrLong
	}
	var r reading
	for i, word := range words(line) {
		if !r.take(i, word) {
			return api.OfLine{}, api.ErrForm
		}
	}
	if !r.isWhole() {
		return api.OfLine{}, api.ErrForm
	}
	if !isInRange(r.OfLine) {
		return api.OfLine{}, api.ErrRange
	}
	return r.OfLine, api.OK
}

// say returns a word and numbers as they are written in lines and answers.
func say(word string, numbers ...int) string {
	l := []string{word}
	for _, n := range numbers {
		l = append(l, strconv.Itoa(n))
	}
	return strings.Join(l, " ")
}

// Text returns a line as it is written.
func Text(x api.OfLine) (string, api.Errno) {
	if !isVerb(x.Verb) {
		return "", api.ErrArg
	}
	said := forms()[x.Verb].word
	if x.Name != "" {
		said += " " + x.Name
	}
	line := say(first, x.At) + " " + say(said, x.Numbers...)
	// A name that is none can be read as other words.
	if y, e := Parse(line); e != api.OK || y.Name != x.Name {
		return "", api.ErrArg
	}
	return line, api.OK
}
