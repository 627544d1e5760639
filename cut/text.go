package cut

import (
	"strings"

	"trunnel/api"
	"trunnel/space"
)

// Print returns the text of a list.
func Print(l []api.Cut) (string, api.Errno) {
	if _, e := readList(l); e != api.OK {
		return "", e
	}
	var text strings.Builder
	for _, c := range l {
		text.WriteString(c.Kind + " " + c.Face)
		for _, number := range c.Numbers {
			text.WriteString(" " + string(number))
		}
		text.WriteString("\n")
	}
	if text.Len() > api.MaxLog {
		return "", api.ErrLong
	}
	return text.String(), api.OK
}

// Read returns the list with a text, or the line of its first error.
func Read(s string) ([]api.Cut, int, api.Errno) {
	if len(s) > api.MaxLog {
		return nil, 0, api.ErrLong
	}
	if s != "" && !strings.HasSuffix(s, "\n") {
		return nil, 0, api.ErrTorn
	}
	var cuts []api.Cut
	for text := range strings.Lines(s) {
		line := words{rest: strings.TrimSuffix(text, "\n")}
		c, e := readLine(line.next)
		if e != api.OK {
			return nil, len(cuts) + 1, e
		}
		cuts = append(cuts, c)
	}
	if len(cuts) > api.MaxCuts {
		return nil, 0, api.ErrMany
	}
	return cuts, 0, api.OK
}

// words are those of a line that are still to be read.
type words struct {
	rest    string
	isEmpty bool
}

// next returns the next word, and whether there is one. It is empty where a blank does not stand between two words.
func (w *words) next() (string, bool) {
	if w.isEmpty {
		return "", false
	}
	word, rest, isMore := strings.Cut(w.rest, " ")
	w.rest, w.isEmpty = rest, !isMore
	return word, true
}

// readLine returns the cut of a line, word by word.
func readLine(next func() (string, bool)) (api.Cut, api.Errno) {
	var c api.Cut
	c.Kind, _ = next()
	c.Face, _ = next()
	if c.Kind == "" || c.Face == "" {
		return api.Cut{}, api.ErrSyntax
	}
	for {
		word, ok := next()
		if !ok {
			return c, CheckCut(c)
		}
		if space.Check(api.Rat(word)) != api.OK {
			return api.Cut{}, api.ErrSyntax
		}
		c.Numbers = append(c.Numbers, api.Rat(word))
	}
}
