package draw

import (
	"cmp"
	"strings"

	"trunnel/api"
	"trunnel/space"
)

// readLines returns the lines of a drawing, and the error of CheckLines.
func readLines(l []api.Line) ([]stroke, api.Errno) {
	if len(l) > MaxLines {
		return nil, api.ErrMany
	}
	var before *stroke
	return each(l, func(one api.Line) (stroke, api.Errno) {
		from, errFrom := readPlace(one.From)
		to, errTo := readPlace(one.To)
		s := stroke{from, to, one.Hidden}
		e := cmp.Or(errFrom, errTo)
		if e == api.OK && (from.compare(to) >= 0 || before != nil && before.compare(s) >= 0) {
			e = api.ErrOrder
		}
		before = &s
		return s, e
	})
}

// CheckLines returns the first error of lines.
func CheckLines(l []api.Line) api.Errno {
	_, e := readLines(l)
	return e
}

// Print returns the text of lines.
func Print(l []api.Line) (string, api.Errno) {
	if e := CheckLines(l); e != api.OK {
		return "", e
	}
	var text strings.Builder
	for _, one := range l {
		text.WriteString(word(one.Hidden))
		for _, number := range [4]api.Rat{one.From[0], one.From[1], one.To[0], one.To[1]} {
			text.WriteString(" " + string(number))
		}
		text.WriteString("\n")
	}
	if text.Len() > api.MaxLog {
		return "", api.ErrLong
	}
	return text.String(), api.OK
}

// word returns the word with which the text of a line begins.
func word(isHidden bool) string {
	if isHidden {
		return "hidden"
	}
	return "visible"
}

// Read returns the lines with a text, or the line of its first error.
func Read(s string) ([]api.Line, int, api.Errno) {
	if len(s) > api.MaxLog {
		return nil, 0, api.ErrLong
	}
	if s != "" && !strings.HasSuffix(s, "\n") {
		return nil, 0, api.ErrTorn
	}
	var l []api.Line
	for text := range strings.Lines(s) {
		one, ok := readText(strings.TrimSuffix(text, "\n"))
		if !ok {
			return nil, len(l) + 1, api.ErrSyntax
		}
		l = append(l, one)
	}
	if e := CheckLines(l); e != api.OK {
		return nil, 0, e
	}
	return l, 0, api.OK
}

// readText returns the line with a text, and whether the text has the form of one.
func readText(text string) (api.Line, bool) {
	words := strings.Split(text, " ")
	if len(words) != 5 || words[0] != word(false) && words[0] != word(true) {
		return api.Line{}, false
	}
	var numbers [4]api.Rat
	for i, number := range words[1:] {
		numbers[i] = api.Rat(number)
		if space.Check(numbers[i]) != api.OK {
			return api.Line{}, false
		}
	}
	return api.Line{
		From:   [2]api.Rat{numbers[0], numbers[1]},
		To:     [2]api.Rat{numbers[2], numbers[3]},
		Hidden: words[0] == word(true),
	}, true
}
