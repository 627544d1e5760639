package yard_test

import (
	"slices"
	"strings"
	"testing"

	"trunnel/api"
	"trunnel/yard"
)

// P10.2

func TestErrorsOfPlans(t *testing.T) {
	for _, row := range wrongPlans() {
		wantError(t, "CheckPlan of "+row.what, yard.CheckPlan(row.p), row.e)
		if row.e == api.OK {
			continue
		}
		text, e := yard.Print(row.p)
		want(t, "Print of "+row.what, text, e, "", row.e)
		names, values, e := yard.Params(row.p)
		want(t, "Params of "+row.what, names, e, nil, row.e)
		want(t, "Params of "+row.what, values, e, nil, row.e)
		timbers, e := yard.Expand(row.p)
		want(t, "Expand of "+row.what, timbers, e, api.Timbers{}, row.e)
		renamed, e := yard.Rename(row.p, "?", "1")
		want(t, "Rename of "+row.what, renamed, e, yard.Plan{}, row.e)
	}
}

// wrongPlans returns plans with their errors.
func wrongPlans() []struct {
	what string
	p    yard.Plan
	e    api.Errno
} {
	of := func(lines ...yard.Line) yard.Plan { return yard.Plan{Name: "H", Lines: lines} }
	param, bent, end, post := line("param w 1"), yard.Line{Kind: "bent", Names: []string{"b"}}, yard.Line{Kind: "end"}, line("post p 0 0 0 1 1 1")
	place, row := yard.Line{Kind: "place", Names: []string{"b", "x"}, Values: slices.Repeat([]yard.Expr{number(1)}, 3)}, yard.Line{Kind: "row", Names: []string{"b", "x"}, Values: slices.Repeat([]yard.Expr{number(1)}, 4)}
	housing, wall := line("housing p q"), yard.Line{Kind: "wall", Names: []string{"1"}, Values: []yard.Expr{{}}}
	one := []yard.Expr{number(1)}
	return []struct {
		what string
		p    yard.Plan
		e    api.Errno
	}{
		{"nothing", yard.Plan{}, api.ErrName},
		{"a name alone", of(), api.OK},
		{"a name of 24 bytes", yard.Plan{Name: long(24)}, api.OK},
		{"a name of 25 bytes", yard.Plan{Name: long(25)}, api.ErrName},
		{"no name, and too many lines", yard.Plan{Name: "1", Lines: slices.Repeat([]yard.Line{wall}, 257)}, api.ErrName},
		{"256 lines", of(slices.Repeat([]yard.Line{param}, 256)...), api.OK},
		{"257 lines", of(slices.Repeat([]yard.Line{param}, 257)...), api.ErrMany},
		{"257 wrong lines", of(slices.Repeat([]yard.Line{wall}, 257)...), api.ErrMany},
		{"a kind that is none", of(wall), api.ErrKind},
		{"no kind", of(yard.Line{}), api.ErrKind},
		{"the kind frame", of(yard.Line{Kind: "frame", Names: []string{"H"}}), api.ErrKind},
		{"a kind in capital letters", of(yard.Line{Kind: "End"}), api.ErrKind},
		{"a param without a name", of(yard.Line{Kind: "param", Values: one}), api.ErrShape},
		{"a param with two names", of(yard.Line{Kind: "param", Names: []string{"a", "b"}, Values: one}), api.ErrShape},
		{"a param without a value", of(yard.Line{Kind: "param", Names: []string{"a"}}), api.ErrShape},
		{"a param with two values", of(yard.Line{Kind: "param", Names: []string{"a"}, Values: slices.Concat(one, one)}), api.ErrShape},
		{"a wrong shape ahead of a wrong name", of(yard.Line{Kind: "param", Names: []string{"1"}}), api.ErrShape},
		{"a name that is none", of(yard.Line{Kind: "param", Names: []string{"1"}, Values: one}), api.ErrName},
		{"a second name that is none", of(yard.Line{Kind: "housing", Names: []string{"p", ""}}), api.ErrName},
		{"a wrong name ahead of a wrong value", of(yard.Line{Kind: "param", Names: []string{"1"}, Values: []yard.Expr{{}}}), api.ErrName},
		{"a wrong value", of(yard.Line{Kind: "param", Names: []string{"a"}, Values: []yard.Expr{number(-1)}}), api.ErrRange},
		{"the first one of two wrong values", of(yard.Line{Kind: "lap", Names: []string{"a", "b"}, Values: []yard.Expr{name(""), number(-1)}}), api.ErrName},
		{"a second wrong value", of(yard.Line{Kind: "lap", Names: []string{"a", "b"}, Values: []yard.Expr{number(1), chain(17)}}), api.ErrLimit},
		{"an endless value", of(yard.Line{Kind: "param", Names: []string{"a"}, Values: []yard.Expr{endless()}}), api.ErrMany},
		{"an end outside", of(end), api.ErrState},
		{"two ends", of(bent, end, end), api.ErrState},
		{"a bent in a bent", of(bent, bent, end, end), api.ErrState},
		{"a param in a bent", of(bent, param, end), api.ErrState},
		{"a place in a bent", of(bent, place, end), api.ErrState},
		{"a row in a bent", of(bent, row, end), api.ErrState},
		{"a wrong value of a param in a bent", of(bent, yard.Line{Kind: "param", Names: []string{"a"}, Values: []yard.Expr{{}}}, end), api.ErrKind},
		{"a wrong name of a bent in a bent", of(bent, yard.Line{Kind: "bent", Names: []string{"1"}}), api.ErrName},
		{"a param in a bent without an end", of(bent, param), api.ErrState},
		{"a bent without an end", of(bent), api.ErrTorn},
		{"a second bent without an end", of(bent, end, bent, post), api.ErrTorn},
		{"a wrong line in a bent without an end", of(bent, wall), api.ErrKind},
		{"members and joints in a bent", of(bent, post, housing, end, param, place, row, post), api.OK},
		{"what only Expand finds wrong", of(param, param, place, bent, end, bent, end, housing), api.OK},
		{"the first one of two wrong lines", of(end, wall), api.ErrState},
	}
}

func TestTableOfKinds(t *testing.T) {
	for _, k := range kinds() {
		check := func(names, values int) api.Errno {
			l := yard.Line{Kind: k.kind, Names: slices.Repeat([]string{"a"}, names), Values: slices.Repeat([]yard.Expr{number(1)}, values)}
			lines := map[string][]yard.Line{"bent": {l, {Kind: "end"}}, "end": {{Kind: "bent", Names: []string{"b"}}, l}}[k.kind]
			if lines == nil {
				lines = []yard.Line{l}
			}
			return yard.CheckPlan(yard.Plan{Name: "H", Lines: lines})
		}
		for names := range 4 {
			for values := range 18 {
				wanted := api.ErrShape
				if names == k.names && values == k.values {
					wanted = api.OK
				}
				wantError(t, "CheckPlan of "+k.kind, check(names, values), wanted)
			}
		}
		inBent := yard.Plan{Name: "H", Lines: []yard.Line{{Kind: "bent", Names: []string{"b"}}, k.sample(), {Kind: "end"}}}
		wanted := api.OK
		if slices.Contains([]string{"param", "bent", "end", "place", "row"}, k.kind) {
			wanted = api.ErrState
		}
		wantError(t, "CheckPlan in a bent of "+k.kind, yard.CheckPlan(inBent), wanted)
	}
}

func TestTextOfThePlanOfTheExample(t *testing.T) {
	p, at, e := yard.Read(hall)
	values := func(texts ...string) []yard.Expr {
		var l []yard.Expr
		for _, text := range texts {
			l = append(l, expr(text))
		}
		return l
	}
	wantAt(t, "Read", p, at, e, yard.Plan{Name: "H", Lines: []yard.Line{
		{Kind: "param", Names: []string{"w"}, Values: values("4")},
		{Kind: "bent", Names: []string{"b"}},
		{Kind: "post", Names: []string{"p"}, Values: values("0", "0", "0", "6", "1", "1")},
		{Kind: "end"},
		{Kind: "row", Names: []string{"b", "n"}, Values: values("3", "w", "0", "0")},
		{Kind: "beam", Names: []string{"t"}, Values: values("0", "0", "6", "2*w+1", "1", "1")},
		{Kind: "housing", Names: []string{"n1_p", "t"}},
	}}, 0, api.OK)
	text, e := yard.Print(p)
	want(t, "Print", text, e, hall, api.OK)
}

func TestTextsThatAreNoPlans(t *testing.T) {
	for text, wanted := range map[string]struct {
		at int
		e  api.Errno
	}{
		"":                         {0, api.ErrTorn},
		"frame H":                  {0, api.ErrTorn},
		"frame H\nend":             {0, api.ErrTorn},
		"wall\n\nend":              {0, api.ErrTorn},
		"\n":                       {1, api.ErrSyntax},
		"frame\n":                  {1, api.ErrSyntax},
		"frame \n":                 {1, api.ErrSyntax},
		"frame H \n":               {1, api.ErrSyntax},
		"frame  H\n":               {1, api.ErrSyntax},
		" frame H\n":               {1, api.ErrSyntax},
		"frame H I\n":              {1, api.ErrSyntax},
		"Frame H\n":                {1, api.ErrSyntax},
		"param w 4\n":              {1, api.ErrSyntax},
		"wall\nwall\n":             {1, api.ErrSyntax},
		"frame H\n\n":              {2, api.ErrSyntax},
		"frame H\n \n":             {2, api.ErrSyntax},
		"frame H\nframe H\n":       {2, api.ErrSyntax},
		"frame H\nwall a\n":        {2, api.ErrSyntax},
		"frame H\nparam\n":         {2, api.ErrSyntax},
		"frame H\nparam w\n":       {2, api.ErrSyntax},
		"frame H\nparam w \n":      {2, api.ErrSyntax},
		"frame H\nparam w 4 \n":    {2, api.ErrSyntax},
		"frame H\nparam w 4 5\n":   {2, api.ErrSyntax},
		"frame H\nparam  w 4\n":    {2, api.ErrSyntax},
		"frame H\nparam w  4\n":    {2, api.ErrSyntax},
		"frame H\n param w 4\n":    {2, api.ErrSyntax},
		"frame H\nparam w 4+\n":    {2, api.ErrSyntax},
		"frame H\nparam w 04\n":    {2, api.ErrSyntax},
		"frame H\nparam w 4\r\n":   {2, api.ErrSyntax},
		"frame H\nparam\tw 4\n":    {2, api.ErrSyntax},
		"frame H\nend \n":          {2, api.ErrSyntax},
		"frame H\nend x\n":         {2, api.ErrSyntax},
		"frame H\nhousing a\n":     {2, api.ErrSyntax},
		"frame H\nhousing a b c\n": {2, api.ErrSyntax},
		"frame H\nlap a b 1\n":     {2, api.ErrSyntax},
		"frame H\nparam w " + strings.Repeat("-", 16) + "1\n":                                    {2, api.ErrSyntax},
		"frame H\nparam w " + strings.Repeat("-", 64) + "1\n":                                    {2, api.ErrSyntax},
		"frame H\nparam w " + strings.Repeat("(", 2048) + "1" + strings.Repeat(")", 2048):        {0, api.ErrTorn},
		"frame H\nparam w " + strings.Repeat("(", 2048) + "1" + strings.Repeat(")", 2048) + "\n": {2, api.ErrSyntax},
		"frame 1\nparam w 4\nwall\n":                                                             {3, api.ErrSyntax},
		"frame H\nend\nend\nwall\n":                                                              {4, api.ErrSyntax},
		"frame 1\n":                                                                              {0, api.ErrName},
		"frame \t\n":                                                                             {0, api.ErrName},
		"frame H\nparam 2 4\n":                                                                   {0, api.ErrName},
		"frame H\nparam ä 4\n":                                                                   {0, api.ErrName},
		"frame H\nend\n":                                                                         {0, api.ErrState},
		"frame H\nbent b\n":                                                                      {0, api.ErrTorn},
		"frame H\nbent b\nparam w 1\nend\n":                                                      {0, api.ErrState},
		"frame H\n" + strings.Repeat("end\n", 257):                                               {0, api.ErrMany},
	} {
		p, at, e := yard.Read(text)
		wantAt(t, "Read of "+text, p, at, e, yard.Plan{}, wanted.at, wanted.e)
	}
	p, at, e := yard.Read("frame H\n")
	wantAt(t, "Read of a name alone", p, at, e, yard.Plan{Name: "H"}, 0, api.OK)
	_, at, e = yard.Read("frame H\n" + strings.Repeat("param w 1\n", 256))
	wantAt(t, "Read of 256 lines", 0, at, e, 0, 0, api.OK)
}

func TestLengthsOfTextsOfPlans(t *testing.T) {
	least := "frame H\n"
	lines := strings.Repeat("housing a b\n", (api.MaxLog-len(least))/12)
	text := least + lines + strings.Repeat(" ", api.MaxLog-len(least)-len(lines)-1) + "\n"
	p, at, e := yard.Read(text)
	wantAt(t, "Read of a million bytes", p, at, e, yard.Plan{}, strings.Count(text, "\n"), api.ErrSyntax)
	p, at, e = yard.Read(text + "\n")
	wantAt(t, "Read of one more", p, at, e, yard.Plan{}, 0, api.ErrLong)
	p, at, e = yard.Read(strings.Repeat("x", api.MaxLog+1))
	wantAt(t, "Read of one more without a line feed", p, at, e, yard.Plan{}, 0, api.ErrLong)
	p, at, e = yard.Read(strings.Repeat("x", api.MaxLog))
	wantAt(t, "Read of a million letters", p, at, e, yard.Plan{}, 0, api.ErrTorn)
}

// widest returns an expression with a long text.
func widest(levels int) yard.Expr {
	if levels == 1 {
		return name(long(24))
	}
	return op("+", widest(levels-1), widest(levels-1))
}

func TestPrintOfTooLongPlans(t *testing.T) {
	value := widest(5) // 16 names
	bytes := len(sure(yard.PrintExpr(value)))
	var lines []yard.Line
	total := len("frame H\n")
	for total+len("member m")+15*(bytes+1)+1 <= api.MaxLog-2000 {
		lines = append(lines, yard.Line{Kind: "member", Names: []string{"m"}, Values: slices.Repeat([]yard.Expr{value}, 15)})
		total += len("member m") + 15*(bytes+1) + 1
	}
	// What is missing are joints, whose names may have any lengths.
	joint := func(bytes int) {
		names := bytes - len("housing  \n")
		a := min(24, names-1)
		lines = append(lines, yard.Line{Kind: "housing", Names: []string{long(a), long(names - a)}})
		total += bytes
	}
	for api.MaxLog-total > 100 {
		joint(58)
	}
	joint((api.MaxLog - total) / 2)
	joint(api.MaxLog - total)
	p := yard.Plan{Name: "H", Lines: lines}
	text, e := yard.Print(p)
	wantError(t, "Print of a million bytes", e, api.OK)
	if len(text) != api.MaxLog {
		t.Fatalf("Print: got %d bytes", len(text))
	}
	back, at, e := yard.Read(text)
	wantAt(t, "Read of what is printed", back, at, e, p, 0, api.OK)
	p.Name = "HH"
	text, e = yard.Print(p)
	want(t, "Print of one more", text, e, "", api.ErrLong)
}

// printed returns the text of a plan by the definition.
func printed(p yard.Plan) string {
	text := "frame " + p.Name + "\n"
	for _, l := range p.Lines {
		text += l.Kind
		for _, name := range l.Names {
			text += " " + name
		}
		for _, value := range l.Values {
			text += " " + sure(yard.PrintExpr(value))
		}
		text += "\n"
	}
	return text
}

// plan returns a plan whose lines have any names and values.
func (s source) plan() yard.Plan {
	p := yard.Plan{Name: s.choice("H", "frame", "x_1")}
	inBent := false
	for range s.from(0, 20) {
		k := kinds()[s.Intn(len(kinds()))]
		l := yard.Line{Kind: k.kind}
		for range k.names {
			l.Names = append(l.Names, s.choice("a", "b", "c", "end", "param"))
		}
		for range k.values {
			l.Values = append(l.Values, s.expr(s.from(1, 4), "a", "b", "bent"))
		}
		if yard.CheckPlan(yard.Plan{Name: "H", Lines: append(slices.Clone(p.Lines), l)}) == api.ErrState {
			continue
		}
		p.Lines = append(p.Lines, l)
		inBent = k.kind == "bent" || inBent && k.kind != "end"
	}
	if inBent {
		p.Lines = append(p.Lines, yard.Line{Kind: "end"})
	}
	return p
}

func TestPlansAreReadFromTheirTexts(t *testing.T) {
	s := newSource(1005)
	for range 500 {
		p := s.plan()
		text, e := yard.Print(p)
		want(t, "Print", text, e, printed(p), api.OK)
		back, at, e := yard.Read(text)
		wantAt(t, "Read of "+text, back, at, e, p, 0, api.OK)
	}
}

func TestRename(t *testing.T) {
	p := plan(hallLines)
	for _, row := range []struct{ from, to, text string }{
		{"w", "width", "frame H\nparam width 4\nbent b\npost p 0 0 0 6 1 1\nend\nrow b n 3 width 0 0\nbeam t 0 0 6 2*width+1 1 1\nhousing n1_p t\n"},
		{"b", "w2", "frame H\nparam w 4\nbent w2\npost p 0 0 0 6 1 1\nend\nrow w2 n 3 w 0 0\nbeam t 0 0 6 2*w+1 1 1\nhousing n1_p t\n"},
		{"n1_p", long(24), "frame H\nparam w 4\nbent b\npost p 0 0 0 6 1 1\nend\nrow b n 3 w 0 0\nbeam t 0 0 6 2*w+1 1 1\nhousing " + long(24) + " t\n"},
		{"t", "H", "frame H\nparam w 4\nbent b\npost p 0 0 0 6 1 1\nend\nrow b n 3 w 0 0\nbeam H 0 0 6 2*w+1 1 1\nhousing n1_p H\n"},
		{"n", "end", "frame H\nparam w 4\nbent b\npost p 0 0 0 6 1 1\nend\nrow b end 3 w 0 0\nbeam t 0 0 6 2*w+1 1 1\nhousing n1_p t\n"},
	} {
		r, e := yard.Rename(p, row.from, row.to)
		want(t, "Rename of "+row.from, sure(yard.Print(r)), e, row.text, api.OK)
		back, e := yard.Rename(r, row.to, row.from)
		want(t, "Rename back", back, e, p, api.OK)
	}
	for _, row := range []struct {
		from, to string
		e        api.Errno
	}{
		{"v", "x", api.ErrUnknown}, {"v", "1", api.ErrUnknown}, {"v", "w", api.ErrUnknown}, {"H", "x", api.ErrUnknown}, {"post", "x", api.ErrUnknown},
		{"", "x", api.ErrUnknown}, {"4", "x", api.ErrUnknown}, {"w", "1", api.ErrName}, {"w", "", api.ErrName}, {"w", long(25), api.ErrName},
		{"w", "b", api.ErrTwice}, {"w", "n1_p", api.ErrTwice}, {"w", "w", api.ErrTwice}, {"b", "w", api.ErrTwice},
	} {
		r, e := yard.Rename(p, row.from, row.to)
		want(t, "Rename of "+row.from+" to "+row.to, r, e, yard.Plan{}, row.e)
	}
	only := plan("post p q 0 -(q*2) 1 1/q 1\n")
	r, e := yard.Rename(only, "q", "r")
	want(t, "Rename of a name in values alone", sure(yard.Print(r)), e, "frame H\npost p r 0 -(r*2) 1 1/r 1\n", api.OK)
	r, e = yard.Rename(only, "p", "q")
	want(t, "Rename to a name in values alone", r, e, yard.Plan{}, api.ErrTwice)
	r, e = yard.Rename(only, "p", "r")
	want(t, "Rename of a name in front of values alone", sure(yard.Print(r)), e, "frame H\npost r q 0 -(q*2) 1 1/q 1\n", api.OK)
}

func TestRenamedPlansByTheDefinition(t *testing.T) {
	s := newSource(1006)
	for range 300 {
		p := s.plan()
		from, to := s.choice("a", "b", "c", "end"), s.choice("a", "z", "param")
		text := ""
		isThere, isTaken := false, false
		for i, l := range strings.SplitAfter(printed(p), "\n") {
			words := strings.Split(strings.TrimSuffix(l, "\n"), " ")
			for j := 1; j < len(words) && i > 0; j++ {
				words[j] = replaced(words[j], from, to, &isThere, &isTaken)
			}
			text += strings.Join(words, " ") + l[len(strings.TrimSuffix(l, "\n")):]
		}
		r, e := yard.Rename(p, from, to)
		switch {
		case !isThere:
			want(t, "Rename", r, e, yard.Plan{}, api.ErrUnknown)
		case isTaken:
			want(t, "Rename", r, e, yard.Plan{}, api.ErrTwice)
		default:
			want(t, "Rename", sure(yard.Print(r)), e, text, api.OK)
		}
	}
}

// replaced returns a word with a name in the place of another one, and remembers which of both it has.
func replaced(word, from, to string, isThere, isTaken *bool) string {
	isSign := func(r rune) bool { return strings.ContainsRune("+-*/()", r) }
	text := ""
	for len(word) > 0 {
		end := strings.IndexFunc(word, isSign)
		if end < 0 {
			end = len(word)
		}
		name := word[:end]
		*isThere, *isTaken = *isThere || name == from, *isTaken || name == to
		if name == from {
			name = to
		}
		text += name
		if word = word[end:]; word != "" {
			text, word = text+word[:1], word[1:]
		}
	}
	return text
}

func TestRenamedPlansShareNoMemory(t *testing.T) {
	p := plan(hallLines)
	r := sure(yard.Rename(p, "w", "v"))
	want(t, "the plan", p, 0, plan(hallLines), 0)
	for i := range r.Lines {
		for j := range r.Lines[i].Names {
			r.Lines[i].Names[j] = "changed"
		}
		for j := range r.Lines[i].Values {
			for k := range r.Lines[i].Values[j].Args {
				r.Lines[i].Values[j].Args[k] = number(7)
			}
			r.Lines[i].Values[j] = number(8)
		}
		r.Lines[i] = yard.Line{}
	}
	want(t, "the plan behind changes of the renamed one", p, 0, plan(hallLines), 0)
}
