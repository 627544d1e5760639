package cut_test

import (
	"slices"
	"strings"
	"testing"

	"trunnel/api"
	"trunnel/cut"
)

// P5.7

// readText is the result of Read, but for its error.
type readText struct {
	l    []api.Cut
	line int
}

func read(s string) (readText, api.Errno) {
	l, line, e := cut.Read(s)
	return readText{l, line}, e
}

func TestTexts(t *testing.T) {
	for _, row := range []struct {
		text string
		l    []api.Cut
	}{
		{"", nil},
		{"saw top 1 0 0 8\n", []api.Cut{made("saw", "top", "1", "0", "0", "8")}},
		{"pocket bottom\n", []api.Cut{made("pocket", "bottom")}},
		{"pocket start 1 -2/3 0 -8\n", []api.Cut{made("pocket", "start", "1", "-2/3", "0", "-8")}},
		{"saw top 1 0 0 8\nslot left 2 4 -1 1 1 3\n", []api.Cut{made("saw", "top", "1", "0", "0", "8"), made("slot", "left", "2", "4", "-1", "1", "1", "3")}},
		{"bore end 5 2 1/2 -1 9\npocket right\nbore end 5 2 1/2 -1 9\n", []api.Cut{made("bore", "end", "5", "2", "1/2", "-1", "9"), made("pocket", "right"), made("bore", "end", "5", "2", "1/2", "-1", "9")}},
		{"saw top 1 0 0 " + string(digits(600)) + "\n", []api.Cut{made("saw", "top", "1", "0", "0", digits(600))}},
		{"pocket top" + strings.Repeat(" 1", 256) + "\n", []api.Cut{made("pocket", "top", slices.Repeat([]api.Rat{"1"}, 256)...)}},
		{strings.Repeat("pocket top\n", 32), slices.Repeat([]api.Cut{made("pocket", "top")}, 32)},
	} {
		text, e := cut.Print(row.l)
		want(t, "Print", text, e, row.text, api.OK)
		l, e := read(row.text)
		want(t, "Read of "+row.text, l, e, readText{row.l, 0}, api.OK)
	}
}

func TestTextsOfAnyLists(t *testing.T) {
	s := newSource(8)
	for range 100 {
		l := s.list(s.Intn(6), 6)
		var wanted string
		for _, c := range l {
			words := []string{c.Kind, c.Face}
			for _, n := range c.Numbers {
				words = append(words, string(n))
			}
			wanted += strings.Join(words, " ") + "\n"
		}
		text, e := cut.Print(l)
		want(t, "Print", text, e, wanted, api.OK)
		back, e := read(text)
		want(t, "Read", back, e, readText{l, 0}, api.OK)
	}
}

func TestErrorsOfRead(t *testing.T) {
	many := strings.Repeat("pocket top\n", 32)
	for _, row := range []struct {
		text string
		line int
		e    api.Errno
	}{
		{"saw top 1 0 0 8", 0, api.ErrTorn},
		{"x", 0, api.ErrTorn},
		{" ", 0, api.ErrTorn},
		{"saw roof 1 0 0 8\npocket top", 0, api.ErrTorn},
		{many + "pocket top\npocket", 0, api.ErrTorn},
		{"\n", 1, api.ErrSyntax},
		{"saw\n", 1, api.ErrSyntax},
		{"saw \n", 1, api.ErrSyntax},
		{" saw\n", 1, api.ErrSyntax},
		{" saw top 1 0 0 8\n", 1, api.ErrSyntax},
		{"saw top 1 0 0 8 \n", 1, api.ErrSyntax},
		{"saw  top 1 0 0 8\n", 1, api.ErrSyntax},
		{"saw top  1 0 0 8\n", 1, api.ErrSyntax},
		{"saw top 1 0  0 8\n", 1, api.ErrSyntax},
		{"pocket top \n", 1, api.ErrSyntax},
		{"pocket top\n\n", 2, api.ErrSyntax},
		{"pocket top\n\npocket top\n", 2, api.ErrSyntax},
		{"saw top 1 0 0 2/4\n", 1, api.ErrSyntax},
		{"saw top 1 0 0 x\n", 1, api.ErrSyntax},
		{"saw top 1 0 0 08\n", 1, api.ErrSyntax},
		{"saw top 1 0 0 +8\n", 1, api.ErrSyntax},
		{"saw top 1 0 0 " + string(digits(601)) + "\n", 1, api.ErrSyntax},
		{"axe top x\n", 1, api.ErrSyntax},
		{"saw top x\n", 1, api.ErrSyntax},
		{"axe roof\n", 1, api.ErrKind},
		{"axe top 1 0 0 8\n", 1, api.ErrKind},
		{"top saw 1 0 0 8\n", 1, api.ErrKind},
		{"saw roof 1 0 0 8\n", 1, api.ErrUnknown},
		{"saw 1 0 0 8\n", 1, api.ErrUnknown},
		{"saw top 1 0 0\n", 1, api.ErrShape},
		{"saw top\n", 1, api.ErrShape},
		{"pocket top" + strings.Repeat(" 1", 260) + "\n", 1, api.ErrMany},
		{"pocket top" + strings.Repeat(" 1", 257) + "\n", 1, api.ErrShape},
		{"saw top 0 0 0 8\n", 1, api.ErrZero},
		{"slot top 1 1 0 4 3 4\n", 1, api.ErrOrder},
		{"bore top 1 1 0 0 4\n", 1, api.ErrRange},
		{"pocket top\nsaw roof 1 0 0 8\n", 2, api.ErrUnknown},
		{"pocket top\nsaw top 1 0 0 8\naxe top\nsaw\n", 3, api.ErrKind},
		{"pocket top\nsaw top 1 0 0 8\nsaw\naxe top\n", 3, api.ErrSyntax},
		{many + "pocket top\n", 0, api.ErrMany},
		{many + "pocket roof\n", 33, api.ErrUnknown},
		{many + many + "saw\n", 65, api.ErrSyntax},
	} {
		got, e := read(row.text)
		want(t, "Read of "+row.text, got, e, readText{nil, row.line}, row.e)
	}
}

// long returns a list whose text has about a million bytes: just so many.
func long(bytes int) []api.Cut {
	full := made("pocket", "bottom", slices.Repeat([]api.Rat{digits(600)}, 256)...)
	last := made("pocket", "bottom")
	begin := len("pocket bottom\n")
	rest := bytes - 6*(begin+256*601) - begin
	for i := range 128 { // what is left is shared out among the numbers that are still to come
		size := rest / (128 - i)
		last.Numbers = append(last.Numbers, digits(size-1))
		rest -= size
	}
	return append(slices.Repeat([]api.Cut{full}, 6), last)
}

func TestLongTexts(t *testing.T) {
	for _, row := range []struct {
		bytes int
		e     api.Errno
	}{{999999, api.OK}, {1000000, api.OK}, {1000001, api.ErrLong}, {1000100, api.ErrLong}} {
		l := long(row.bytes)
		var wanted strings.Builder
		for _, c := range l {
			wanted.WriteString(c.Kind + " " + c.Face)
			for _, n := range c.Numbers {
				wanted.WriteString(" " + string(n))
			}
			wanted.WriteString("\n")
		}
		if wanted.Len() != row.bytes {
			t.Fatalf("a text of %d bytes, not %d", wanted.Len(), row.bytes)
		}
		text, e := cut.Print(l)
		wantError(t, "Print of a long list", e, row.e)
		if row.e == api.OK && text != wanted.String() || row.e != api.OK && text != "" {
			t.Errorf("Print of %d bytes: got %d bytes", row.bytes, len(text))
		}
		got, e := read(wanted.String())
		if row.e != api.OK {
			l = nil
		}
		want(t, "Read of a long text", got, e, readText{l, 0}, row.e)
		_, line, e := cut.Read(wanted.String()[:row.bytes-1] + "x")
		torn := api.ErrTorn
		if row.e != api.OK {
			torn = row.e
		}
		want(t, "Read of a long text that is torn", line, e, 0, torn)
	}
	_, line, e := cut.Read(strings.Repeat("x", 1000001))
	want(t, "Read of a long text without lines", line, e, 0, api.ErrLong)
	_, line, e = cut.Read(strings.Repeat("\n", 1000000))
	want(t, "Read of empty lines", line, e, 1, api.ErrSyntax)
}

func TestErrorsOfPrint(t *testing.T) {
	for _, row := range wrongCuts() {
		text, e := cut.Print([]api.Cut{made("pocket", "top"), row.c})
		wantError(t, "Print of "+row.what, e, row.e)
		if e != api.OK && text != "" {
			t.Errorf("Print of %s: got %s beside an error", row.what, text)
		}
	}
	text, e := cut.Print(slices.Repeat([]api.Cut{made("pocket", "top")}, 33))
	want(t, "Print of 33 cuts", text, e, "", api.ErrMany)
	text, e = cut.Print(append(long(1000001), made("axe", "top")))
	want(t, "Print of a long list with an error", text, e, "", api.ErrKind)
}
