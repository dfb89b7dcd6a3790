package frame

import (
	"maps"
	"slices"

	"hangfire/api"
)

// heard is a frame of a tape, with its number.
type heard struct {
	number int
	words  []int
}

// checkTape returns the error of a format, and of a tape before it is read.
func checkTape(f api.FrFormat, t api.FrTape) api.Errno {
	if _, _, e := Check(f); e != api.OK {
		return e
	}
	switch {
	case len(t.Bytes) > api.MaxFrBytes:
		return api.ErrLong
	case !isNumber(t.First):
		return api.ErrRange
	}
	return api.OK
}

// read returns the frames of a tape, or the error of one of the numbers.
func read(f api.FrFormat, t api.FrTape) ([]heard, api.Errno) {
	var l []heard
	least := t.First
	for x := range frames(f, t.Bytes) {
		number := least + modulo(x.Count-least, counts)
		l = append(l, heard{number, x.Words})
		least = number + 1
	}
	if !every(l, func(h heard) bool { return isNumber(h.number) }) {
		return nil, api.ErrRange
	}
	return l, api.OK
}

// modulo returns n modulo m, from 0 to m - 1.
func modulo(n, m int) int { return (n%m + m) % m }

// Numbers returns the numbers of the frames of a tape.
func Numbers(f api.FrFormat, t api.FrTape) ([]int, api.Errno) {
	if e := checkTape(f, t); e != api.OK {
		return nil, e
	}
	l, e := read(f, t)
	var numbers []int
	for _, h := range l {
		numbers = append(numbers, h.number)
	}
	return numbers, e
}

// Values returns the words of a channel on a tape.
func Values(f api.FrFormat, t api.FrTape, channel int) ([]api.FrValue, api.Errno) {
	if e := checkTape(f, t); e != api.OK {
		return nil, e
	}
	if !has(f.Channels, channel) {
		return nil, api.ErrNone
	}
	l, e := read(f, t)
	c := f.Channels[channel]
	var values []api.FrValue
	for _, h := range l {
		if isInFrame(c, h.number) {
			values = append(values, api.FrValue{Number: h.number, Value: h.words[c.Word]})
		}
	}
	return values, e
}

// told is the words of a frame, and 0 behind them, as what can be compared.
type told [api.MaxFrWords]int

// tellers are the tapes that have some words: the first one, and how many.
type tellers struct{ from, agree int }

// beat reports whether these are more than other ones, or as many with a first one before theirs.
func (a tellers) beat(b tellers) bool {
	return a.agree > b.agree || a.agree == b.agree && a.from < b.from
}

// talk is what tapes tell of a number.
type talk map[told]tellers

// add adds what a tape tells, which is behind those that have been added.
func (k talk) add(tape int, words []int) {
	var w told
	copy(w[:], words)
	by, found := k[w]
	if !found {
		by.from = tape
	}
	by.agree++
	k[w] = by
}

// report returns the report of a number with so many words. No two tellers have the same first tape, so one of them beats all others.
func (k talk) report(number, words int) api.FrReport {
	var most told
	var best tellers
	for w, by := range k {
		if by.beat(best) {
			most, best = w, by
		}
	}
	return api.FrReport{Number: number, From: best.from, Agree: best.agree, Marked: len(k) > 1, Words: slices.Clone(most[:words])}
}

// Merge returns what tapes tell together.
func Merge(f api.FrFormat, l []api.FrTape) ([]api.FrReport, api.Errno) {
	if _, _, e := Check(f); e != api.OK {
		return nil, e
	}
	if len(l) > api.MaxFrTapes {
		return nil, api.ErrLong
	}
	talks := map[int]talk{}
	for i, t := range l {
		if e := checkTape(f, t); e != api.OK {
			return nil, e
		}
		own, e := read(f, t)
		if e != api.OK {
			return nil, e
		}
		for _, h := range own {
			if talks[h.number] == nil {
				talks[h.number] = talk{}
			}
			talks[h.number].add(i, h.words)
		}
	}
	var reports []api.FrReport
	for _, number := range slices.Sorted(maps.Keys(talks)) {
		reports = append(reports, talks[number].report(number, f.Words))
	}
	return reports, api.OK
}
