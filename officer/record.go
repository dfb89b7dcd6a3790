package officer

import (
	"slices"
	"strings"

	"hangfire/api"
)

// What a record has between lines and answers.
const (
	lineFeed = "\n"
	mark     = "> " // of an answer
)

// Record returns the record of lines: each of them, and the answer to it.
func Record(s api.OfSetup, lines []string) (string, api.Errno) {
	_, answers, e := play(s, lines)
	if e != api.OK {
		return "", e
	}
	if slices.ContainsFunc(lines, func(line string) bool { return strings.Contains(line, lineFeed) }) {
		return "", api.ErrForm
	}
	var record strings.Builder
	for i, line := range lines {
		record.WriteString(line + lineFeed + mark + answers[i] + lineFeed)
	}
	return record.String(), api.OK
}

// entries returns the lines and the answers of a record, and whether it has the form of one.
func entries(record string) (lines, answers []string, ok bool) {
	for rest := record; rest != ""; {
		line, behind, _ := strings.Cut(rest, lineFeed)
		second, next, whole := strings.Cut(behind, lineFeed)
		answer, marked := strings.CutPrefix(second, mark)
		if !whole || !marked {
			return nil, nil, false
		}
		lines, answers, rest = append(lines, line), append(answers, answer), next
	}
	return lines, answers, true
}

// Replay returns the index of the first answer of a record that is not what the desk answers (-1: none).
func Replay(s api.OfSetup, record string) (int, api.Errno) {
	if _, _, e := Check(s); e != api.OK {
		return 0, e
	}
	lines, told, ok := entries(record)
	if !ok {
		return 0, api.ErrForm
	}
	_, answers, e := play(s, lines)
	if e != api.OK {
		return 0, e
	}
	for i, answer := range answers {
		if answer != told[i] {
			return i, api.OK
		}
	}
	return nothing, api.OK
}
