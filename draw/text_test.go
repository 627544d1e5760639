package draw_test

import (
	"strings"
	"testing"

	"trunnel/api"
	"trunnel/draw"
)

// P9.5

// lineAt returns a line whose place in a list is told by its first coordinate.
func lineAt(x int, to api.Rat) api.Line {
	return api.Line{From: [2]api.Rat{integer(x), "0"}, To: [2]api.Rat{integer(x), to}}
}

// manyLines returns so many lines.
func manyLines(count int) []api.Line {
	l := make([]api.Line, count)
	for i := range l {
		l[i] = lineAt(i, "1")
	}
	return l
}

// changed returns lines with one of them changed.
func changed(l []api.Line, i int, change func(l *api.Line)) []api.Line {
	change(&l[i])
	return l
}

// wrongLines returns lists of lines with their errors.
func wrongLines() []struct {
	what string
	l    []api.Line
	e    api.Errno
} {
	large := lines("v 0 0 1 0, v 1 0 2 0")
	large[1].To[1] = ten(601)
	return []struct {
		what string
		l    []api.Line
		e    api.Errno
	}{
		{"4097 lines", manyLines(4097), api.ErrMany},
		{"4097 lines with an error", changed(manyLines(4097), 0, func(l *api.Line) { l.From[0] = "x" }), api.ErrMany},
		{"4096 lines with an error at the end", changed(manyLines(4096), 4095, func(l *api.Line) { l.To[1] = "x" }), api.ErrForm},
		{"no number in From, first", lines("v x 0 1 0"), api.ErrForm},
		{"no number in From, second", lines("v 0 x 1 0"), api.ErrForm},
		{"no number in To, first", lines("v 0 0 x 0"), api.ErrForm},
		{"no number in To, second", lines("v 0 0 1 2/4"), api.ErrForm},
		{"no numbers at all", make([]api.Line, 1), api.ErrForm},
		{"a large number", large, api.ErrLarge},
		{"a large number in From ahead of none in To", changed(lines("v 0 0 1 x"), 0, func(l *api.Line) { l.From[1] = ten(601) }), api.ErrLarge},
		{"a large number in To behind none in From", changed(lines("v 0 x 1 0"), 0, func(l *api.Line) { l.To[0] = ten(601) }), api.ErrForm},
		{"a line backwards", lines("v 1 0 0 0"), api.ErrOrder},
		{"a line downwards", lines("h 0 1 0 0"), api.ErrOrder},
		{"a line that is a point", lines("v 1 1 1 1"), api.ErrOrder},
		{"the same line twice", lines("v 0 0 1 0, v 0 0 1 0"), api.ErrOrder},
		{"the same hidden line twice", lines("h 0 0 1 0, h 0 0 1 0"), api.ErrOrder},
		{"a hidden line ahead of a visible one", lines("h 0 0 1 0, v 0 0 1 0"), api.ErrOrder},
		{"wrong order of first coordinates of From", lines("v 1 0 2 0, v 0 0 3 0"), api.ErrOrder},
		{"wrong order of second coordinates of From", lines("v 0 1 2 0, v 0 0 3 0"), api.ErrOrder},
		{"wrong order of first coordinates of To", lines("v 0 0 2 0, v 0 0 1 3"), api.ErrOrder},
		{"wrong order of second coordinates of To", lines("v 0 0 1 3, h 0 0 1 2"), api.ErrOrder},
		{"wrong order at the end", lines("v 0 0 1 0, v 1 0 2 0, v 2 0 3 0, v 1 1 2 0"), api.ErrOrder},
		{"an order of texts, not of numbers", lines("v 10 0 11 0, v 9 0 10 0"), api.ErrOrder},
		{"a line backwards ahead of no number", lines("v 1 0 0 0, v x 0 1 0"), api.ErrOrder},
		{"a line backwards behind no number", lines("v x 0 1 0, v 1 0 0 0"), api.ErrForm},
		{"a line backwards that has no number", lines("v 1 0 0 x"), api.ErrForm},
		{"lines in a wrong order, the second one without a number", lines("v 1 0 2 0, v 0 0 3 x"), api.ErrForm},
	}
}

func TestErrorsOfLines(t *testing.T) {
	for _, row := range wrongLines() {
		wantError(t, "CheckLines of "+row.what, draw.CheckLines(row.l), row.e)
		text, e := draw.Print(row.l)
		want(t, "Print of "+row.what, text, e, "", row.e)
		is, e := draw.IsDrawing(nil, front(), row.l)
		want(t, "IsDrawing of "+row.what, is, e, false, row.e)
	}
	for _, l := range [][]api.Line{
		nil, manyLines(4096), nearLines(), bothLines(), cubeLines(), lines("v 0 0 0 1"), lines("v 0 0 1 -5"), lines("v -1/2 0 -1/3 0"),
		lines("v 0 0 1 0, h 0 0 1 0"), lines("h 0 0 1 0, v 0 0 1 1, v 0 0 2 0, v 0 1 1 0, v 1 0 2 0"), lines("v 9 0 10 0, v 10 0 11 0"),
	} {
		wantError(t, "CheckLines of lines without an error", draw.CheckLines(l), api.OK)
	}
}

func TestTexts(t *testing.T) {
	for _, row := range []struct {
		text string
		l    []api.Line
	}{
		{"", nil},
		{"visible 0 0 0 4\n", lines("v 0 0 0 4")},
		{"hidden -1/2 0 1/3 -4\n", lines("h -1/2 0 1/3 -4")},
		{"visible 0 0 0 4\nhidden 0 1 1/2 1\n", lines("v 0 0 0 4, h 0 1 1/2 1")},
		{"visible 0 0 1 0\nhidden 0 0 1 0\n", lines("v 0 0 1 0, h 0 0 1 0")},
		{"visible 0 0 0 4\nvisible 0 0 2 0\nhidden 0 1 1 1\nvisible 0 4 2 4\nhidden 1 0 1 1\nvisible 2 0 2 4\n", bothLines()},
		{"visible 0 0 0 " + string(nines(600)) + "\n", []api.Line{lineAt(0, nines(600))}},
		{"visible 0 0 0 1/" + string(nines(600)) + "\n", []api.Line{lineAt(0, "1/"+nines(600))}},
	} {
		text, e := draw.Print(row.l)
		want(t, "Print", text, e, row.text, api.OK)
		l, line, e := draw.Read(row.text)
		want(t, "Read of "+row.text, l, e, row.l, api.OK)
		want(t, "the line of Read", line, e, 0, api.OK)
	}
}

func TestTextsOfAnyDrawings(t *testing.T) {
	s := newSource(13)
	for range 60 {
		l := sure(draw.Lines(s.solids(3), s.view()))
		wanted := ""
		for _, one := range l {
			word := "visible"
			if one.Hidden {
				word = "hidden"
			}
			wanted += word + " " + string(one.From[0]) + " " + string(one.From[1]) + " " + string(one.To[0]) + " " + string(one.To[1]) + "\n"
		}
		text, e := draw.Print(l)
		want(t, "Print", text, e, wanted, api.OK)
		back, line, e := draw.Read(text)
		want(t, "Read", back, e, l, api.OK)
		want(t, "the line of Read", line, e, 0, api.OK)
	}
}

func TestErrorsOfRead(t *testing.T) {
	good := "visible 0 0 0 4\n"
	many := sure(draw.Print(manyLines(4096)))
	for _, row := range []struct {
		text string
		line int
		e    api.Errno
	}{
		{"visible 0 0 0 4", 0, api.ErrTorn},
		{"x", 0, api.ErrTorn},
		{" ", 0, api.ErrTorn},
		{good + "x", 0, api.ErrTorn},
		{"x\nvisible", 0, api.ErrTorn},
		{good + good + "visible 1 0 2 0\r", 0, api.ErrTorn},
		{"\n", 1, api.ErrSyntax},
		{"\n\n", 1, api.ErrSyntax},
		{good + "\n", 2, api.ErrSyntax},
		{"\n" + good, 1, api.ErrSyntax},
		{"visible\n", 1, api.ErrSyntax},
		{"visible 0 0 0\n", 1, api.ErrSyntax},
		{"visible 0 0 0 4 5\n", 1, api.ErrSyntax},
		{"visible 0 0 0 4 \n", 1, api.ErrSyntax},
		{" visible 0 0 0 4\n", 1, api.ErrSyntax},
		{"visible  0 0 0 4\n", 1, api.ErrSyntax},
		{"visible 0 0  0 4\n", 1, api.ErrSyntax},
		{"visible 0 0 0 \n", 1, api.ErrSyntax},
		{"visible\t0 0 0 4\n", 1, api.ErrSyntax},
		{"visible 0 0 0 4\r\n", 1, api.ErrSyntax},
		{"Visible 0 0 0 4\n", 1, api.ErrSyntax},
		{"hidde 0 0 0 4\n", 1, api.ErrSyntax},
		{"0 0 0 4\n", 1, api.ErrSyntax},
		{"0 0 0 4 visible\n", 1, api.ErrSyntax},
		{" 0 0 0 4\n", 1, api.ErrSyntax},
		{"visible x 0 0 4\n", 1, api.ErrSyntax},
		{"visible 0 x 0 4\n", 1, api.ErrSyntax},
		{"visible 0 0 x 4\n", 1, api.ErrSyntax},
		{"visible 0 0 0 x\n", 1, api.ErrSyntax},
		{"visible 0 0 0 04\n", 1, api.ErrSyntax},
		{"visible 0 0 0 +4\n", 1, api.ErrSyntax},
		{"visible 0 0 0 4/2\n", 1, api.ErrSyntax},
		{"visible 0 0 0 4.0\n", 1, api.ErrSyntax},
		{"visible 0 -0 0 4\n", 1, api.ErrSyntax},
		{"visible 0 0 0 " + string(ten(601)) + "\n", 1, api.ErrSyntax},
		{"visible 0 0 0 1/" + string(ten(601)) + "\n", 1, api.ErrSyntax},
		{good + "hidden 0 1 2/4 1\n", 2, api.ErrSyntax},
		{good + "visible 1 0 2 0\nhidden 2 0\n" + good, 3, api.ErrSyntax},
		{"visible 0 4 0 0\n" + "visible\n", 2, api.ErrSyntax},
		{"visible 0 4 0 0\n", 0, api.ErrOrder},
		{good + good, 0, api.ErrOrder},
		{"hidden 0 0 0 4\n" + good, 0, api.ErrOrder},
		{"visible 1 0 2 0\n" + good, 0, api.ErrOrder},
		{many + "visible 4096 0 4096 1\n", 0, api.ErrMany},
		{many + good, 0, api.ErrMany},
		{many + good + "visible\n", 4098, api.ErrSyntax},
	} {
		l, line, e := draw.Read(row.text)
		want(t, "Read of "+row.text, l, e, nil, row.e)
		want(t, "the line of Read of "+row.text, line, api.OK, row.line, api.OK)
	}
	l, line, e := draw.Read(many)
	want(t, "Read of 4096 lines", l, e, manyLines(4096), api.OK)
	want(t, "its line", line, api.OK, 0, api.OK)
}

// long returns a list whose text has just so many bytes.
func long(bytes int) []api.Line {
	const around = len("visible 1000 0 1000 \n")
	var l []api.Line
	for bytes > 0 {
		digits := min(600, bytes-around)
		if rest := bytes - around - digits; rest > 0 && rest <= around {
			digits -= around // what is left is enough for a line of its own
		}
		l = append(l, lineAt(1000+len(l), nines(digits)))
		bytes -= around + digits
	}
	return l
}

func TestLongTexts(t *testing.T) {
	for _, row := range []struct {
		bytes int
		e     api.Errno
	}{{999999, api.OK}, {1000000, api.OK}, {1000001, api.ErrLong}, {1000700, api.ErrLong}} {
		l := long(row.bytes)
		var wanted strings.Builder
		for _, one := range l {
			wanted.WriteString("visible " + string(one.From[0]) + " 0 " + string(one.To[0]) + " " + string(one.To[1]) + "\n")
		}
		if wanted.Len() != row.bytes {
			t.Fatalf("a text of %d bytes, not %d", wanted.Len(), row.bytes)
		}
		wantError(t, "CheckLines of a long list", draw.CheckLines(l), api.OK)
		text, e := draw.Print(l)
		wantError(t, "Print of a long list", e, row.e)
		if row.e == api.OK && text != wanted.String() || row.e != api.OK && text != "" {
			t.Errorf("Print of %d bytes: got %d bytes", row.bytes, len(text))
		}
		if row.e != api.OK {
			l = nil
		}
		got, line, e := draw.Read(wanted.String())
		want(t, "Read of a long text", got, e, l, row.e)
		want(t, "its line", line, e, 0, row.e)
		torn := api.ErrTorn
		if row.e != api.OK {
			torn = row.e
		}
		got, line, e = draw.Read(wanted.String()[:row.bytes-1] + "9")
		want(t, "Read of a long text that is torn", got, e, nil, torn)
		want(t, "its line", line, e, 0, torn)
	}
	_, line, e := draw.Read(strings.Repeat("x", 1000001))
	want(t, "Read of a long text without lines", line, e, 0, api.ErrLong)
	_, line, e = draw.Read(strings.Repeat("\n", 1000000))
	want(t, "Read of empty lines", line, e, 1, api.ErrSyntax)
	text, e := draw.Print(changed(long(1000001), 1, func(l *api.Line) { l.From = l.To }))
	want(t, "Print of a long list with an error", text, e, "", api.ErrOrder)
}
