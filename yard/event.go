package yard

import (
	"strconv"
	"strings"

	"trunnel/api"
)

// maxRecord is how many bytes the text of an event may have, and a line of a session.
const maxRecord = 2*api.MaxText + 200

// eventKind is a kind of events.
type eventKind struct {
	names   int
	hasText bool
	happen  func(b book, e api.Event) (*deed, api.Errno) // the last deed that counts behind an event, or its error
}

// eventKinds returns the kinds of events by their names.
func eventKinds() map[string]eventKind {
	return map[string]eventKind{
		"draw":   {1, true, book.draw},
		"branch": {2, false, book.branch},
		"merge":  {2, false, book.merge},
		"note":   {0, true, book.note},
		"undo":   {0, false, book.undo},
	}
}

// CheckEvent returns the first error of an event by itself.
func CheckEvent(e api.Event) api.Errno {
	kind, ok := eventKinds()[e.Kind]
	switch {
	case e.Number < 1 || e.Number > api.MaxEvents:
		return api.ErrRange
	case !ok:
		return api.ErrKind
	case len(e.Names) != kind.names || len(e.Values) > 0:
		return api.ErrShape
	case !areNames(e.Names):
		return api.ErrName
	case e.Text != "" && !kind.hasText:
		return api.ErrForm
	case len(e.Text) > api.MaxText:
		return api.ErrLong
	}
	return api.OK
}

// Encode returns the text of an event.
func Encode(e api.Event) (string, api.Errno) {
	if err := CheckEvent(e); err != api.OK {
		return "", err
	}
	body := strconv.Itoa(e.Number) + " " + strings.Join(append([]string{e.Kind}, e.Names...), " ")
	if eventKinds()[e.Kind].hasText {
		body += " " + escaped(e.Text)
	}
	return checkSum(body) + " " + body, api.OK
}

// checkSum returns the decimal digits of the check sum of a text.
func checkSum(text string) string {
	sum := 7
	for _, letter := range []byte(text) {
		sum = (251*sum + int(letter)) % 1000003
	}
	return strconv.Itoa(sum)
}

// escaped returns the escaped form of a text.
func escaped(text string) string {
	return strings.NewReplacer("\\", "\\\\", "\n", "\\n").Replace(text)
}

// unescaped returns the text with an escaped form, and whether it is one.
func unescaped(form string) (string, bool) {
	var text strings.Builder
	for form != "" {
		plain, code, isEscape := strings.Cut(form, "\\")
		text.WriteString(plain)
		switch {
		case strings.Contains(plain, "\n"):
			return "", false
		case !isEscape:
			return text.String(), true
		case strings.HasPrefix(code, "\\"):
			text.WriteString("\\")
		case strings.HasPrefix(code, "n"):
			text.WriteString("\n")
		default:
			return "", false
		}
		form = code[1:]
	}
	return text.String(), true
}

// Decode returns the event with a text.
func Decode(s string) (api.Event, api.Errno) {
	if len(s) > maxRecord {
		return api.Event{}, api.ErrLong
	}
	sum, body, ok := strings.Cut(s, " ")
	if !ok || !isWhole(sum) {
		return api.Event{}, api.ErrSyntax
	}
	if sum != checkSum(body) {
		return api.Event{}, api.ErrSum
	}
	digits, action, _ := strings.Cut(body, " ")
	e, ok := readAction(action)
	if !ok || !isWhole(digits) {
		return api.Event{}, api.ErrSyntax
	}
	e.Number, _ = strconv.Atoi(digits)
	if CheckEvent(e) != api.OK {
		return api.Event{}, api.ErrSyntax
	}
	return e, api.OK
}

// readAction returns the event whose body without its Number is given, and whether it has this form.
func readAction(action string) (api.Event, bool) {
	next, rest := cutter(action)
	word, _ := next()
	kind, ok := eventKinds()[word]
	if !ok {
		return api.Event{}, false
	}
	e := api.Event{Kind: word}
	if e.Names, ok = take(next, kind.names); !ok {
		return api.Event{}, false
	}
	left, isMore := rest()
	if isMore != kind.hasText {
		return api.Event{}, false
	}
	if e.Text, ok = unescaped(left); !ok {
		return api.Event{}, false
	}
	return e, true
}
