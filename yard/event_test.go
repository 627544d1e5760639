package yard_test

import (
	"slices"
	"strconv"
	"strings"
	"testing"

	"trunnel/api"
	"trunnel/yard"
)

// P10.5: CheckEvent, Encode and Decode

// event returns an event: its number, its kind and its names, with spaces between them, and a text.
func event(words, text string) api.Event {
	w := strings.Fields(words)
	n, _ := strconv.Atoi(w[0])
	return api.Event{Number: n, Kind: w[1], Names: w[2:], Text: text}
}

// wrongEvents returns events with their errors.
func wrongEvents() []struct {
	what string
	e    api.Event
	err  api.Errno
} {
	with := func(e api.Event, change func(e *api.Event)) api.Event {
		change(&e)
		return e
	}
	value := func(e *api.Event) { e.Values = []int{0} }
	return []struct {
		what string
		e    api.Event
		err  api.Errno
	}{
		{"nothing", api.Event{}, api.ErrRange},
		{"the number 0", event("0 saw", ""), api.ErrRange},
		{"the number -1", event("-1 undo", ""), api.ErrRange},
		{"the number 1001", event("1001 undo", ""), api.ErrRange},
		{"no kind", api.Event{Number: 1}, api.ErrKind},
		{"a kind that is none", with(event("1 saw 2", ""), value), api.ErrKind},
		{"a kind in capital letters", event("1 Undo", ""), api.ErrKind},
		{"draw without a name", event("1 draw", "x"), api.ErrShape},
		{"draw with two names", event("1 draw a b", "x"), api.ErrShape},
		{"branch with a name", event("1 branch a", ""), api.ErrShape},
		{"branch with three names", event("1 branch a b c", ""), api.ErrShape},
		{"merge with a name", event("1 merge a", ""), api.ErrShape},
		{"merge with three names", event("1 merge a b c", ""), api.ErrShape},
		{"note with a name", event("1 note a", "x"), api.ErrShape},
		{"undo with a name", event("1 undo a", ""), api.ErrShape},
		{"a value", with(event("1 undo", ""), value), api.ErrShape},
		{"a value ahead of a wrong name", with(event("1 draw 1", ""), value), api.ErrShape},
		{"many names ahead of a wrong one", event("1 branch 1 2 3", "x"), api.ErrShape},
		{"a name that is none", event("1 draw 1", ""), api.ErrName},
		{"a second name that is none", event("1 merge a _", ""), api.ErrName},
		{"an empty name", api.Event{Number: 1, Kind: "draw", Names: []string{""}}, api.ErrName},
		{"a name with a blank", api.Event{Number: 1, Kind: "draw", Names: []string{"a b"}}, api.ErrName},
		{"a name of 25 bytes", event("1 draw "+long(25), ""), api.ErrName},
		{"a wrong name ahead of a text", event("1 branch a 1", "x"), api.ErrName},
		{"a wrong name ahead of a long text", event("1 draw 1", strings.Repeat("x", 4097)), api.ErrName},
		{"branch with a text", event("1 branch a b", "x"), api.ErrForm},
		{"merge with a text", event("1 merge a b", "x"), api.ErrForm},
		{"undo with a text", event("1 undo", " "), api.ErrForm},
		{"undo with a long text", event("1 undo", strings.Repeat("x", 4097)), api.ErrForm},
		{"draw with a long text", event("1 draw a", strings.Repeat("x", 4097)), api.ErrLong},
		{"note with a long text", event("1 note", strings.Repeat("\n", 4097)), api.ErrLong},
	}
}

// rightEvents returns events with their bodies.
func rightEvents() map[string]api.Event {
	return map[string]api.Event{
		"1 draw main frame H\\n":                   event("1 draw main", "frame H\n"),
		"2 draw a ":                                event("2 draw a", ""),
		"3 draw a  ":                               event("3 draw a", " "),
		"4 draw a b c":                             event("4 draw a", "b c"),
		"2 branch side main":                       event("2 branch side main", ""),
		"5 merge main side":                        event("5 merge main side", ""),
		"1000 undo":                                event("1000 undo", ""),
		"999 note ":                                event("999 note", ""),
		"1 note a\\nb":                             event("1 note", "a\nb"),
		"1 note \\\\n\\n\\\\\\\\\\n":               event("1 note", "\\n\n\\\\\n"),
		"1 note \x00\xff é\t\r":                    event("1 note", "\x00\xff é\t\r"),
		"1 merge " + long(24) + " " + long(24):     event("1 merge "+long(24)+" "+long(24), ""),
		"1 note " + strings.Repeat("x", 4096):      event("1 note", strings.Repeat("x", 4096)),
		"1 note " + strings.Repeat("\\n", 4096):    event("1 note", strings.Repeat("\n", 4096)),
		"1 draw a " + strings.Repeat("\\\\", 4096): event("1 draw a", strings.Repeat("\\", 4096)),
	}
}

// sum returns the check sum of a text by the definition.
func sum(text string) string {
	s := 7
	for i := range len(text) {
		s = (251*s + int(text[i])) % 1000003
	}
	return strconv.Itoa(s)
}

func TestErrorsOfEvents(t *testing.T) {
	for _, row := range wrongEvents() {
		wantError(t, "CheckEvent of "+row.what, yard.CheckEvent(row.e), row.err)
		text, e := yard.Encode(row.e)
		want(t, "Encode of "+row.what, text, e, "", row.err)
		p, at, e := yard.Replay([]api.Event{row.e})
		wantAt(t, "Replay of "+row.what, p, at, e, yard.Project{}, 1, row.err)
		wantError(t, "Accepts of "+row.what, yard.Accepts(nil, row.e), row.err)
	}
}

func TestTextsOfEvents(t *testing.T) {
	for body, event := range rightEvents() {
		wantError(t, "CheckEvent of "+body, yard.CheckEvent(event), api.OK)
		text, e := yard.Encode(event)
		want(t, "Encode", text, e, sum(body)+" "+body, api.OK)
		back, e := yard.Decode(text)
		want(t, "Decode of "+text, back, e, event, api.OK)
	}
	text, e := yard.Encode(event("1 undo", ""))
	want(t, "Encode of the example", text, e, "90720 1 undo", api.OK)
}

func TestCheckSumsOfAllLengths(t *testing.T) {
	lengths := map[int]bool{}
	for i := 0; len(lengths) < 7 && i < 5000000; i++ {
		text := strconv.Itoa(i)
		digits := sum("1 note " + text)
		if lengths[len(digits)] || digits != "0" && len(digits) == 1 {
			continue
		}
		lengths[len(digits)] = true
		got, e := yard.Encode(event("1 note", text))
		want(t, "Encode", got, e, digits+" 1 note "+text, api.OK)
		back, e := yard.Decode(got)
		want(t, "Decode of "+got, back, e, event("1 note", text), api.OK)
		back, e = yard.Decode("0" + got)
		want(t, "Decode of 0"+got, back, e, api.Event{}, api.ErrSyntax)
	}
	if len(lengths) < 6 {
		t.Errorf("only check sums with the lengths %v were found", lengths)
	}
}

func TestTextsThatAreNoEvents(t *testing.T) {
	for text, wanted := range map[string]api.Errno{
		"":                               api.ErrSyntax,
		"90720":                          api.ErrSyntax,
		"1undo":                          api.ErrSyntax,
		" 1 undo":                        api.ErrSyntax,
		"x 1 undo":                       api.ErrSyntax,
		"090720 1 undo":                  api.ErrSyntax,
		"-90720 1 undo":                  api.ErrSyntax,
		"+90720 1 undo":                  api.ErrSyntax,
		"90720x 1 undo":                  api.ErrSyntax,
		"00 1 undo":                      api.ErrSyntax,
		"1000000000 x":                   api.ErrSyntax,
		"1234567890 x":                   api.ErrSyntax,
		"999999999 x":                    api.ErrSum,
		"0 1 undo":                       api.ErrSum,
		"90721 1 undo":                   api.ErrSum,
		"90720 1 undo ":                  api.ErrSum,
		"90720 1 undo\n":                 api.ErrSum,
		"90720  1 undo":                  api.ErrSum,
		"1090723 1 undo":                 api.ErrSum,
		"7 ":                             api.ErrSyntax,
		"8 ":                             api.ErrSum,
		strings.Repeat("1", 8393):        api.ErrLong,
		strings.Repeat("1", 8392):        api.ErrSyntax,
		"1 " + strings.Repeat("x", 8391): api.ErrLong,
		"1 " + strings.Repeat("x", 8390): api.ErrSum,
	} {
		e, err := yard.Decode(text)
		want(t, "Decode of "+text, e, err, api.Event{}, wanted)
	}
}

func TestBodiesThatAreNone(t *testing.T) {
	for _, body := range []string{
		"", " ", "1", "1 ", "undo", " undo", "1 undo ", "1 undo x", "1  undo", " 1 undo", "01 undo", "0 undo", "1001 undo", "-1 undo", "+1 undo", "1.0 undo",
		"x undo", "1000000001 undo", "18446744073709551617 undo", "1 saw", "1 Undo", "1 draw", "1 draw a", "1 draw 1 x", "1 draw  x", "1 draw  a x", "1 draw " + long(25) + " x",
		"1 branch a", "1 branch a ", "1 branch a b ", "1 branch a b c", "1 branch  a b", "1 branch a  b", "1 branch a 1", "1 merge a", "1 merge a b x",
		"1 note", "1 note \\", "1 note a\\b", "1 note \\\\\\", "1 note \\N", "1 note \\ n", "1 note a\nb", "1 note \n", "1 draw a x\ny", "1 draw a\n x", "1 note \\\n",
		"1\nundo", "1 undo\n", "1 note " + strings.Repeat("x", 4097), "1 draw a " + strings.Repeat("\\n", 4097), "\x31\x00 undo", "١ undo",
	} {
		text := sum(body) + " " + body
		e, err := yard.Decode(text)
		want(t, "Decode of "+text, e, err, api.Event{}, api.ErrSyntax)
	}
}

func TestDecodeTakesWhatEncodeReturns(t *testing.T) {
	s := newSource(1011)
	pieces := []string{"1", "2", "0", "12", " ", " ", " ", "draw", "branch", "merge", "note", "undo", "a", "b_1", "\\", "n", "\\n", "\\\\", "\n", "x", "1 note ", "3 draw a "}
	good := 0
	for range 30000 {
		body := ""
		for range s.from(1, 7) {
			body += pieces[s.Intn(len(pieces))]
		}
		text := sum(body) + " " + body
		e, err := yard.Decode(text)
		if err == api.OK {
			good++
			again, err := yard.Encode(e)
			want(t, "Encode of Decode", again, err, text, api.OK)
			continue
		}
		want(t, "Decode of "+text, e, err, api.Event{}, api.ErrSyntax)
	}
	if good < 500 {
		t.Errorf("only %d bodies are some", good)
	}
}

func TestEventsAreNotChanged(t *testing.T) {
	e := event("2 branch side main", "")
	text := sure(yard.Encode(e))
	back := sure(yard.Decode(text))
	back.Names[0] = "changed"
	want(t, "the names", e.Names, 0, []string{"side", "main"}, 0)
	want(t, "another event with the text", sure(yard.Decode(text)), 0, e, 0)
	names := make([]string, 1, 4)
	names[0] = "a"
	sure(yard.Encode(api.Event{Number: 1, Kind: "draw", Names: names}))
	if !slices.Equal(names[:4], []string{"a", "", "", ""}) {
		t.Errorf("Encode writes behind the names: %q", names[:4])
	}
}
