package cut_test

import (
	"reflect"
	"slices"
	"testing"

	"trunnel/api"
	"trunnel/cut"
)

// P1, and the errors of arguments of P5.1 to P5.7.

// arguments are those of any function of the package; each one takes some of them.
type arguments struct {
	m api.Member
	t api.Timbers
	k int
	l []api.Cut
}

// call is a function of the package: of a member or timbers, if it takes them, and of a list or its first cut.
type call struct {
	name                               string
	ofMember, ofTimbers, ofCut, ofList bool
	run                                func(a arguments) ([]any, api.Errno)
}

func calls() []call {
	return []call{
		{name: "Face", ofMember: true, run: func(a arguments) ([]any, api.Errno) { r, e := cut.Face(a.m, "top"); return []any{r}, e }},
		{name: "CheckCut", ofCut: true, run: func(a arguments) ([]any, api.Errno) { return nil, cut.CheckCut(a.l[0]) }},
		{name: "Region", ofMember: true, ofCut: true, run: func(a arguments) ([]any, api.Errno) { r, e := cut.Region(a.m, a.l[0]); return []any{r}, e }},
		{name: "Opening", ofMember: true, ofCut: true, run: func(a arguments) ([]any, api.Errno) { r, e := cut.Opening(a.m, a.l[0]); return []any{r}, e }},
		{name: "Cuts", ofMember: true, ofList: true, run: func(a arguments) ([]any, api.Errno) { r, e := cut.Cuts(a.m, a.l); return []any{r}, e }},
		{name: "Carry", ofMember: true, ofList: true, run: func(a arguments) ([]any, api.Errno) { r, n, e := cut.Carry(a.m, a.l); return []any{r, n}, e }},
		{name: "Needs", ofMember: true, ofList: true, run: func(a arguments) ([]any, api.Errno) { r, e := cut.Needs(a.m, a.l); return []any{r}, e }},
		{name: "Order", ofMember: true, ofList: true, run: func(a arguments) ([]any, api.Errno) { r, e := cut.Order(a.m, a.l); return []any{r}, e }},
		{name: "Circle", ofMember: true, ofList: true, run: func(a arguments) ([]any, api.Errno) { r, e := cut.Circle(a.m, a.l); return []any{r}, e }},
		{name: "Plan", ofTimbers: true, run: func(a arguments) ([]any, api.Errno) { r, e := cut.Plan(a.t, a.k); return []any{r}, e }},
		{name: "Rebuilds", ofTimbers: true, ofList: true, run: func(a arguments) ([]any, api.Errno) { r, e := cut.Rebuilds(a.t, a.k, a.l); return []any{r}, e }},
		{name: "Marks", ofMember: true, ofList: true, run: func(a arguments) ([]any, api.Errno) { r, e := cut.Marks(a.m, a.l); return []any{r}, e }},
		{name: "Waste", ofMember: true, ofList: true, run: func(a arguments) ([]any, api.Errno) { r, e := cut.Waste(a.m, a.l); return []any{r}, e }},
		{name: "Bevels", ofCut: true, run: func(a arguments) ([]any, api.Errno) { r, e := cut.Bevels(a.l[0]); return []any{r}, e }},
		{name: "Turn", ofMember: true, ofList: true, run: func(a arguments) ([]any, api.Errno) { m, r, e := cut.Turn(a.m, a.l); return []any{m, r}, e }},
		{name: "Print", ofList: true, run: func(a arguments) ([]any, api.Errno) { r, e := cut.Print(a.l); return []any{r}, e }},
	}
}

// good returns arguments without errors, of which all functions make something.
func good() arguments {
	return arguments{beam(), tenon(), 0, []api.Cut{made("saw", "top", "1", "0", "0", "8"), made("slot", "left", "2", "4", "0", "1", "0", "2")}}
}

// wantCall compares the error of a call, beside which there is no other result.
func wantCall(t *testing.T, what string, c call, a arguments, wanted api.Errno) {
	t.Helper()
	results, e := c.run(a)
	wantError(t, c.name+" of "+what, e, wanted)
	for _, r := range results {
		if v := reflect.ValueOf(r); e != api.OK && !v.IsZero() && !(v.Kind() == reflect.Slice && v.Len() == 0) {
			t.Errorf("%s of %s: got %v beside an error", c.name, what, r)
		}
	}
}

func TestErrorsOfArguments(t *testing.T) {
	axe := made("axe", "top")
	for _, c := range calls() {
		wantCall(t, "good arguments", c, good(), api.OK)
		if c.ofMember {
			for what, m := range wrongMembers() {
				for _, l := range [][]api.Cut{good().l, {axe}} { // the member comes ahead of the list
					a := good()
					a.m, a.l = m.Member, l
					wantCall(t, what, c, a, m.e)
				}
			}
		}
		if c.ofTimbers {
			testTimbers(t, c)
		}
		if c.ofCut || c.ofList {
			for _, row := range wrongCuts() {
				if row.e != api.OK {
					a := good()
					a.l[0] = row.c
					wantCall(t, row.what, c, a, row.e)
				}
			}
		}
		if c.ofList {
			testLists(t, c)
		}
	}
}

// testTimbers has timbers and numbers of members with errors, ahead of a list with one.
func testTimbers(t *testing.T, c call) {
	t.Helper()
	wrong := map[api.Errno]api.Timbers{
		api.ErrName: joined(), api.ErrTwice: joined(), api.ErrKind: joined(tie("mortise", "Q", "P")),
		api.ErrShape: joined(tie("lap", "Q", "P")), api.ErrOrder: joined(tie("tenon", "Q", "P", "0", "0", "0", "1", "0", "1")),
	}
	wrong[api.ErrName].Members[1].Name = "1"
	wrong[api.ErrTwice].Members[1].Name = "P"
	for _, l := range [][]api.Cut{good().l, {made("axe", "top")}} {
		for e, r := range wrong {
			for _, k := range []int{0, -1, 2} {
				wantCall(t, "wrong timbers", c, arguments{beam(), r, k, l}, e)
			}
		}
		for _, k := range []int{-1, 2, 3, -1 << 63, 1<<63 - 1} {
			wantCall(t, "no number", c, arguments{beam(), tenon(), k, l}, api.ErrUnknown)
			wantCall(t, "no timbers", c, arguments{beam(), api.Timbers{}, k, l}, api.ErrUnknown)
		}
	}
	wantCall(t, "the second member", c, arguments{beam(), tenon(), 1, nil}, api.OK)
	wantCall(t, "no timbers", c, arguments{beam(), api.Timbers{}, 0, nil}, api.ErrUnknown)
}

// testLists has lists that are too long, and lists of which the first cut with an error decides.
func testLists(t *testing.T, c call) {
	t.Helper()
	axe, none := made("axe", "top"), made("saw", "top", "0", "0", "0", "1")
	some := good().l
	across := trenches(33, 0)
	for _, row := range []struct {
		what string
		l    []api.Cut
		e    api.Errno
	}{
		{"32 cuts", across[:32], api.OK},
		{"33 cuts", across, api.ErrMany},
		{"33 cuts with an error", slices.Repeat([]api.Cut{axe}, 33), api.ErrMany},
		{"32 cuts with an error at last", append(slices.Clone(across[:31]), axe), api.ErrKind},
		{"two errors", append(slices.Clone(some), none, axe), api.ErrZero},
		{"two other errors", append(slices.Clone(some), axe, none), api.ErrKind},
		{"nothing", nil, api.OK},
	} {
		a := good()
		a.l = row.l
		wantCall(t, row.what, c, a, row.e)
	}
}

// TestErrorsOfTheFirstRegion has errors of regions, in all functions that have regions.
func TestErrorsOfTheFirstRegion(t *testing.T) {
	steep := made("saw", "top", "1000000000", "1", "0", "1")
	many := made("pocket", "bottom", bevels(27)...)
	for _, c := range calls() {
		switch c.name {
		case "Cuts", "Carry", "Needs", "Order", "Circle", "Marks", "Waste":
		default:
			continue
		}
		for _, row := range []struct {
			what string
			l    []api.Cut
			e    api.Errno
		}{
			{"a steep saw", []api.Cut{steep}, api.ErrLarge},
			{"a body with 33 facets", []api.Cut{many}, api.ErrMany},
			{"a steep saw ahead of the body", append(good().l, steep, many), api.ErrLarge},
			{"a steep saw behind the body", append(good().l, many, steep), api.ErrMany},
			{"an error ahead of a wrong cut", append(good().l, many, steep, made("axe", "top")), api.ErrKind},
		} {
			a := good()
			a.l = row.l
			wantCall(t, row.what, c, a, row.e)
		}
	}
}

// TestArgumentsAreNotChanged has the same arguments, and the same results, for two calls, of which the results are changed in between.
func TestArgumentsAreNotChanged(t *testing.T) {
	for _, c := range calls() {
		a := good()
		first, e := c.run(a)
		wantError(t, c.name, e, api.OK)
		again, _ := c.run(good())
		for _, r := range first {
			spoil(reflect.ValueOf(r))
		}
		want(t, "the arguments of "+c.name, a, api.OK, good(), api.OK)
		second, _ := c.run(a)
		for i := range second {
			if !reflect.DeepEqual(second[i], again[i]) {
				t.Errorf("%s: got %v, and then %v", c.name, again[i], second[i])
			}
		}
	}
}

// spoil sets all elements of lists to their zero values.
func spoil(v reflect.Value) {
	if v.Kind() != reflect.Slice {
		return
	}
	for i := range v.Len() {
		if x := v.Index(i); x.Kind() == reflect.Struct {
			for j := range x.NumField() {
				spoil(x.Field(j))
			}
		} else {
			spoil(x)
		}
		v.Index(i).SetZero()
	}
}

// TestArgumentsOfAnyForm has lists of anything: all functions have some result for them.
func TestArgumentsOfAnyForm(t *testing.T) {
	s := newSource(9)
	words := []string{"", "saw", "slot", "bore", "pocket", "top", "end", "x", " ", "\n"}
	numbers := []api.Rat{"", "0", "1", "-1", "1/2", "2/4", "x", digits(600), digits(601), "1/" + digits(600), "1000000000"}
	for range 300 {
		var l []api.Cut
		for range s.Intn(4) {
			c := made(words[s.Intn(6)], words[s.Intn(8)])
			for range s.Intn(9) {
				c.Numbers = append(c.Numbers, numbers[s.Intn(len(numbers))])
			}
			l = append(l, c)
		}
		a := arguments{beam(), tenon(), s.Intn(4) - 1, append(l, api.Cut{})}
		if s.Intn(2) == 0 {
			a.m.Frame.Origin[0] = numbers[s.Intn(len(numbers))]
			a.t.Members[0].Size[0] = numbers[s.Intn(len(numbers))]
		}
		for _, c := range calls() {
			c.run(a)
			if len(l) > 0 {
				a.l = l
			}
		}
		cut.Face(a.m, words[s.Intn(len(words))])
		text := ""
		for range s.Intn(12) {
			text += words[s.Intn(len(words))] + []string{" ", "\n", ""}[s.Intn(3)]
		}
		cut.Read(text)
	}
}
