package yard

import (
	"slices"
	"strings"

	"trunnel/api"
)

// Print returns the text of a plan.
func Print(p Plan) (string, api.Errno) {
	if e := CheckPlan(p); e != api.OK {
		return "", e
	}
	var text strings.Builder
	writeLine(&text, "frame", p.Name)
	for _, l := range p.Lines {
		values := mapped(l.Values, func(value Expr) string { return value.text(aSum) })
		writeLine(&text, slices.Concat([]string{l.Kind}, l.Names, values)...)
	}
	if text.Len() > api.MaxLog {
		return "", api.ErrLong
	}
	return text.String(), api.OK
}

// writeLine writes words as a line.
func writeLine(text *strings.Builder, words ...string) {
	text.WriteString(strings.Join(words, " ") + "\n")
}

// Read returns the plan with a text, or the line of its first error.
func Read(s string) (Plan, int, api.Errno) {
	if len(s) > api.MaxLog {
		return Plan{}, 0, api.ErrLong
	}
	if !strings.HasSuffix(s, "\n") {
		return Plan{}, 0, api.ErrTorn
	}
	head, lines, _ := strings.Cut(s, "\n")
	name, ok := readHead(head)
	if !ok {
		return Plan{}, 1, api.ErrSyntax
	}
	p := Plan{Name: name}
	known := kinds()
	for text := range strings.Lines(lines) {
		l, ok := readLine(strings.TrimSuffix(text, "\n"), known)
		if !ok {
			return Plan{}, len(p.Lines) + 2, api.ErrSyntax
		}
		p.Lines = append(p.Lines, l)
	}
	if e := CheckPlan(p); e != api.OK {
		return Plan{}, 0, e
	}
	return p, 0, api.OK
}

// cutter returns functions that cut off the next word of a line, and all that is left of it. They also return whether
// there was something left. A word is empty where a blank does not stand between two words.
func cutter(line string) (next, rest func() (string, bool)) {
	isOver := false
	next = func() (string, bool) {
		if isOver {
			return "", false
		}
		word, others, isMore := strings.Cut(line, " ")
		line, isOver = others, !isMore
		return word, true
	}
	rest = func() (string, bool) {
		wasOver := isOver
		isOver = true
		return line, !wasOver
	}
	return next, rest
}

// readHead returns the name in the first line of a plan, and whether it has its form.
func readHead(line string) (string, bool) {
	next, _ := cutter(line)
	first, _ := next()
	name, _ := next()
	_, isMore := next()
	return name, first == "frame" && name != "" && !isMore
}

// readLine returns a line of a plan, and whether it has its form.
func readLine(text string, known map[string]kind) (Line, bool) {
	next, _ := cutter(text)
	word, _ := next()
	k, ok := known[word]
	if !ok {
		return Line{}, false
	}
	names, ok := take(next, k.names)
	if !ok {
		return Line{}, false
	}
	l := Line{Kind: word, Names: names}
	for range k.values {
		word, _ := next()
		value, _, e := ReadExpr(word)
		if e != api.OK {
			return Line{}, false
		}
		l.Values = append(l.Values, value)
	}
	_, isMore := next()
	return l, !isMore
}

// take returns so many words, and whether there are.
func take(next func() (string, bool), count int) ([]string, bool) {
	var words []string
	for range count {
		word, _ := next()
		if word == "" {
			return nil, false
		}
		words = append(words, word)
	}
	return words, true
}
