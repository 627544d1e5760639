package statics_test

import (
	"reflect"
	"slices"
	"strings"
	"testing"

	"trunnel/api"
	"trunnel/statics"
)

// P1, and the errors of arguments of P7.1 to P7.8.

// arguments are those of any function of a truss; each one takes some of them.
type arguments struct {
	truss      api.Truss
	loads      []api.Vec
	motion     []api.Vec
	cases      [][]api.Vec
	table      [][]api.Rat
	forces     statics.Forces
	capacities [][2]api.Rat
	half       api.Half
}

// call is a function of a truss, with the arguments that it takes behind the truss.
type call struct {
	name string
	of   string // l, loads, m, a motion, c, cases, t, a table, f, forces, s, capacities, and h, a half-space
	run  func(a arguments) (any, api.Errno)
}

func result[T any](r T, e api.Errno) (any, api.Errno) { return r, e }

func calls() []call {
	return []call{
		{"CheckTruss", "", func(a arguments) (any, api.Errno) { return nil, statics.CheckTruss(a.truss) }},
		{"Matrix", "", func(a arguments) (any, api.Errno) { return result(statics.Matrix(a.truss)) }},
		{"Rank", "", func(a arguments) (any, api.Errno) { return result(statics.Rank(a.truss)) }},
		{"Motions", "", func(a arguments) (any, api.Errno) { return result(statics.Motions(a.truss)) }},
		{"SelfStress", "", func(a arguments) (any, api.Errno) { return result(statics.SelfStress(a.truss)) }},
		{"IsMotion", "m", func(a arguments) (any, api.Errno) { return result(statics.IsMotion(a.truss, a.motion)) }},
		{"Work", "lm", func(a arguments) (any, api.Errno) { return result(statics.Work(a.truss, a.loads, a.motion)) }},
		{"Solve", "l", func(a arguments) (any, api.Errno) { return result(statics.Solve(a.truss, a.loads)) }},
		{"CheckForces", "lf", func(a arguments) (any, api.Errno) {
			return nil, statics.CheckForces(a.truss, a.loads, a.forces)
		}},
		{"Carries", "l", func(a arguments) (any, api.Errno) { return result(statics.Carries(a.truss, a.loads)) }},
		{"Refuse", "l", func(a arguments) (any, api.Errno) { return result(statics.Refuse(a.truss, a.loads)) }},
		{"CheckRefuse", "lm", func(a arguments) (any, api.Errno) {
			return nil, statics.CheckRefuse(a.truss, a.loads, a.motion)
		}},
		{"Combine", "ct", func(a arguments) (any, api.Errno) { return result(statics.Combine(a.truss, a.cases, a.table)) }},
		{"Worst", "c", func(a arguments) (any, api.Errno) { return result(statics.Worst(a.truss, a.cases)) }},
		{"Squares", "f", func(a arguments) (any, api.Errno) { return result(statics.Squares(a.truss, a.forces)) }},
		{"Overloaded", "fs", func(a arguments) (any, api.Errno) {
			return result(statics.Overloaded(a.truss, a.forces, a.capacities))
		}},
		{"Section", "fh", func(a arguments) (any, api.Errno) {
			force, moment, e := statics.Section(a.truss, a.forces, a.half)
			return [2]api.Vec{force, moment}, e
		}},
		{"Critical", "", func(a arguments) (any, api.Errno) { return result(statics.Critical(a.truss)) }},
		{"Brace", "", func(a arguments) (any, api.Errno) { return result(statics.Brace(a.truss)) }},
	}
}

// takes reports whether a function takes an argument; all of them take a truss.
func (c call) takes(argument rune) bool {
	return argument == 'b' || strings.ContainsRune(c.of, argument)
}

// good returns arguments without errors. Solve and Refuse have results for other loads.
func good(name string) arguments {
	a := arguments{
		truss: hinge(), loads: at("8 -6 0"), motion: at("1 0 0"),
		cases: [][]api.Vec{at("0 -6 0"), at("0 3 2")}, table: [][]api.Rat{{"1", "2"}, {"3", "4"}},
		forces:     statics.Forces{Bars: []api.Rat{"-2"}, Nodes: vecs("0 6 0, 0 0 0, 0 0 0")},
		capacities: [][2]api.Rat{{"35", "1"}}, half: api.Half{N: [3]int{0, 1, 0}, D: "1"},
	}
	if name == "Solve" || name == "CheckForces" {
		a.loads = at("0 -6 0")
	}
	return a
}

// wantCall compares the error of a call, beside which there is no other result.
func wantCall(t *testing.T, what string, c call, a arguments, wanted api.Errno) {
	t.Helper()
	r, e := c.run(a)
	wantError(t, c.name+" of "+what, e, wanted)
	if v := reflect.ValueOf(r); e != api.OK && r != nil && !v.IsZero() && !(v.Kind() == reflect.Slice && v.Len() == 0) {
		t.Errorf("%s of %s: got %v beside an error", c.name, what, r)
	}
}

func TestArgumentsWithoutErrors(t *testing.T) {
	for _, c := range calls() {
		wantCall(t, "good arguments", c, good(c.name), api.OK)
	}
}

// wrong is a change of arguments, with the error of the changed one.
type wrong struct {
	argument rune
	what     string
	e        api.Errno
	change   func(a *arguments)
}

// wrongTrusses have the errors of a truss, in the order in which they are looked at.
func wrongTrusses() []wrong {
	change := func(what string, e api.Errno, change func(s *api.Truss)) wrong {
		return wrong{'b', what, e, func(a *arguments) { change(&a.truss) }}
	}
	return []wrong{
		change("no nodes", api.ErrEmpty, func(s *api.Truss) { *s = api.Truss{} }),
		change("no nodes, but bars", api.ErrEmpty, func(s *api.Truss) { s.Nodes, s.Bars = nil, bars(2, 1) }),
		change("33 nodes, which are wrong", api.ErrMany, func(s *api.Truss) { s.Nodes = make([]api.Vec, 33) }),
		change("a coordinate without a form", api.ErrForm, func(s *api.Truss) { s.Nodes[2][2] = "2/4" }),
		change("a large coordinate", api.ErrLarge, func(s *api.Truss) { s.Nodes[2][0] = digits(601) }),
		change("a first node with another error", api.ErrLarge, func(s *api.Truss) { s.Nodes[0][1], s.Nodes[1][0] = digits(601), "" }),
		change("equal nodes", api.ErrTwice, func(s *api.Truss) { s.Nodes[2] = s.Nodes[0] }),
		change("equal nodes ahead of a wrong one", api.ErrTwice, func(s *api.Truss) { s.Nodes[1], s.Nodes[2][0] = s.Nodes[0], "" }),
		change("a wrong node ahead of equal ones", api.ErrForm, func(s *api.Truss) { s.Nodes[0][0], s.Nodes[2] = "", s.Nodes[1] }),
		change("equal nodes without supports", api.ErrTwice, func(s *api.Truss) { s.Nodes[2], s.Held = s.Nodes[1], nil }),
		change("few supports", api.ErrShape, func(s *api.Truss) { s.Held = s.Held[:2] }),
		change("many supports", api.ErrShape, func(s *api.Truss) { s.Held = append(s.Held, held) }),
		change("few supports, and a wrong bar", api.ErrShape, func(s *api.Truss) { s.Held, s.Bars = nil, bars(2, 1) }),
		change("65 bars, which are wrong", api.ErrMany, func(s *api.Truss) { s.Bars = make([]api.Bar, 65) }),
		change("64 bars, which are wrong", api.ErrOrder, func(s *api.Truss) { s.Bars = make([]api.Bar, 64) }),
		change("a first end that is not there", api.ErrUnknown, func(s *api.Truss) { s.Bars = bars(-1, 2) }),
		change("a second end that is not there", api.ErrUnknown, func(s *api.Truss) { s.Bars = bars(0, 1, 0, 3) }),
		change("a first end that is not there, behind the second one", api.ErrUnknown, func(s *api.Truss) { s.Bars = bars(3, 2) }),
		change("a second end that is not there, ahead of the first one", api.ErrUnknown, func(s *api.Truss) { s.Bars = bars(0, -1) }),
		change("ends far away", api.ErrUnknown, func(s *api.Truss) { s.Bars = bars(-1<<63, 1<<63-1) }),
		change("ends in the wrong order", api.ErrOrder, func(s *api.Truss) { s.Bars = bars(2, 1) }),
		change("equal ends", api.ErrOrder, func(s *api.Truss) { s.Bars = bars(1, 1) }),
		change("a bar twice", api.ErrTwice, func(s *api.Truss) { s.Bars = bars(0, 2, 1, 2, 0, 2) }),
		change("a bar turned round", api.ErrOrder, func(s *api.Truss) { s.Bars = bars(0, 2, 2, 0) }),
		change("a bar twice ahead of a wrong one", api.ErrTwice, func(s *api.Truss) { s.Bars = bars(0, 2, 0, 2, 9, 9) }),
		change("a wrong bar ahead of one that is there twice", api.ErrUnknown, func(s *api.Truss) { s.Bars = bars(0, 2, 9, 9, 0, 2) }),
	}
}

// wrongVectors have the errors of vectors, as loads, as a motion, as nodes of forces, and as cases.
func wrongVectors() []wrong {
	var all []wrong
	for _, x := range []struct {
		what    string
		e       api.Errno
		vectors []api.Vec
	}{
		{"no vectors", api.ErrShape, nil},
		{"few vectors", api.ErrShape, vecs("0 0 0, 0 0 0")},
		{"many vectors, which are wrong", api.ErrShape, make([]api.Vec, 4)},
		{"a vector without a form", api.ErrForm, at("1 0 -0")},
		{"a large vector", api.ErrLarge, at("1 0 1/" + string(digits(601)))},
		{"a first vector with another error", api.ErrLarge, []api.Vec{{"0", digits(601), "0"}, {}, {}}},
		{"a vector with two errors", api.ErrForm, []api.Vec{vec("0 0 0"), {"0", "0/1", digits(601)}, vec("0 0 0")}},
	} {
		for argument, change := range map[rune]func(a *arguments){
			'l': func(a *arguments) { a.loads = x.vectors },
			'm': func(a *arguments) { a.motion = x.vectors },
			'f': func(a *arguments) { a.forces.Nodes = x.vectors },
			'c': func(a *arguments) { a.cases[1] = x.vectors },
		} {
			all = append(all, wrong{argument, x.what, x.e, change})
		}
	}
	return all
}

// wrongNumbers have the other errors of cases, tables, forces, capacities and half-spaces.
func wrongNumbers() []wrong {
	shape, form, large := api.ErrShape, api.ErrForm, api.ErrLarge
	return []wrong{
		{'c', "17 cases, which are wrong", api.ErrMany, func(a *arguments) { a.cases = make([][]api.Vec, 17) }},
		{'c', "16 wrong cases", shape, func(a *arguments) { a.cases = make([][]api.Vec, 16) }},
		{'c', "a first case with another error", form, func(a *arguments) { a.cases = [][]api.Vec{at("0 0 x"), nil} }},
		{'t', "17 rows, which are wrong", api.ErrMany, func(a *arguments) { a.table = make([][]api.Rat, 17) }},
		{'t', "16 wrong rows", shape, func(a *arguments) { a.table = make([][]api.Rat, 16) }},
		{'t', "a short row", shape, func(a *arguments) { a.table[1] = []api.Rat{"x"} }},
		{'t', "a long row", shape, func(a *arguments) { a.table[0] = []api.Rat{"1", "2", "3"} }},
		{'t', "a number without a form", form, func(a *arguments) { a.table[1][1] = "+1" }},
		{'t', "numbers with two errors", large, func(a *arguments) { a.table[1] = []api.Rat{digits(601), ""} }},
		{'t', "a first row with another error", form, func(a *arguments) { a.table = [][]api.Rat{{"1", ""}, {}} }},
		{'f', "no coefficients", shape, func(a *arguments) { a.forces.Bars = nil }},
		{'f', "many coefficients, which are wrong", shape, func(a *arguments) { a.forces.Bars = []api.Rat{"", ""} }},
		{'f', "a coefficient without a form", form, func(a *arguments) { a.forces.Bars[0] = "1/1" }},
		{'f', "a large coefficient", large, func(a *arguments) { a.forces.Bars[0] = digits(601) }},
		{'f', "coefficients ahead of reactions", large, func(a *arguments) { a.forces = statics.Forces{Bars: []api.Rat{digits(601)}} }},
		{'f', "the number of coefficients ahead of reactions", shape, func(a *arguments) { a.forces = statics.Forces{Nodes: make([]api.Vec, 3)} }},
		{'s', "no capacities", shape, func(a *arguments) { a.capacities = nil }},
		{'s', "many capacities, which are wrong", shape, func(a *arguments) { a.capacities = make([][2]api.Rat, 2) }},
		{'s', "a first capacity without a form", form, func(a *arguments) { a.capacities[0] = [2]api.Rat{"x", "-1"} }},
		{'s', "a first capacity that is large", large, func(a *arguments) { a.capacities[0] = [2]api.Rat{"-" + digits(601), ""} }},
		{'s', "a first capacity below 0", api.ErrRange, func(a *arguments) { a.capacities[0] = [2]api.Rat{"-1/9", ""} }},
		{'s', "a second capacity without a form", form, func(a *arguments) { a.capacities[0][1] = "" }},
		{'s', "a second capacity below 0", api.ErrRange, func(a *arguments) { a.capacities[0][1] = "-1" }},
		{'h', "no normal", api.ErrZero, func(a *arguments) { a.half = api.Half{} }},
		{'h', "a normal out of range", api.ErrRange, func(a *arguments) { a.half.N[2] = api.MaxNumber + 1 }},
		{'h', "a normal with a divisor", form, func(a *arguments) { a.half.N = [3]int{0, 2, 4} }},
		{'h', "a D that is large", large, func(a *arguments) { a.half.D = digits(601) }},
	}
}

func wrongs() []wrong { return slices.Concat(wrongTrusses(), wrongVectors(), wrongNumbers()) }

// TestErrorsOfEachArgument has all errors of each argument, in all functions that take it.
func TestErrorsOfEachArgument(t *testing.T) {
	for _, c := range calls() {
		for _, w := range wrongs() {
			if !c.takes(w.argument) {
				continue
			}
			a := good(c.name)
			w.change(&a)
			wantCall(t, w.what, c, a, w.e)
		}
	}
}

// TestErrorsOfArguments has all pairs of wrong arguments: the one further left decides.
func TestErrorsOfArguments(t *testing.T) {
	all := wrongs()
	for _, c := range calls() {
		order := "b" + c.of
		for _, w := range all {
			for _, v := range all {
				if !c.takes(w.argument) || !c.takes(v.argument) || strings.IndexRune(order, w.argument) >= strings.IndexRune(order, v.argument) {
					continue
				}
				a := good(c.name)
				v.change(&a)
				w.change(&a)
				wantCall(t, w.what+", and "+v.what, c, a, w.e)
			}
		}
	}
}

// TestErrorsOfPairsOfCapacities has a first pair with an error behind one without.
func TestErrorsOfPairsOfCapacities(t *testing.T) {
	good := [2]api.Rat{"1", "1"}
	for _, x := range []struct {
		capacities [][2]api.Rat
		e          api.Errno
	}{
		{[][2]api.Rat{good, {"1", "-1"}}, api.ErrRange},
		{[][2]api.Rat{{"1", "-1"}, {"", "1"}}, api.ErrRange},
		{[][2]api.Rat{{"1", ""}, {"-1", "1"}}, api.ErrForm},
		{[][2]api.Rat{good, {"0", "0"}}, api.OK},
	} {
		l, e := statics.Overloaded(tripod(), pressed(), x.capacities)
		want(t, "Overloaded", len(l), e, map[bool]int{true: 1}[x.e == api.OK], x.e)
	}
}

// TestErrorsOfStates has the errors that come behind those of all arguments.
func TestErrorsOfStates(t *testing.T) {
	a := good("")
	a.motion = at("1 1 0")
	for _, c := range calls() {
		if c.takes('m') && c.takes('l') {
			wantCall(t, "what is no motion", c, a, api.ErrState)
		}
	}
	a.motion[0][0] = ""
	for _, c := range calls() {
		if c.takes('m') {
			wantCall(t, "what is no motion, nor vectors", c, a, api.ErrForm)
		}
	}
	a.cases = [][]api.Vec{at("1 0 0"), at("0 0 x")}
	w, e := statics.Worst(a.truss, a.cases)
	want(t, "Worst of a wrong case behind one that is refused", w, e, nil, api.ErrForm)
	w, e = statics.Worst(api.Truss{}, nil)
	want(t, "Worst of no cases and no nodes", w, e, nil, api.ErrEmpty)
	a.truss.Bars = bars(1, 0)
	w, e = statics.Worst(a.truss, nil)
	want(t, "Worst of no cases for a wrong truss", w, e, nil, api.ErrOrder)
}

// TestLimitsOfArguments has as many nodes, bars, cases and rows as there may be.
func TestLimitsOfArguments(t *testing.T) {
	s := grid(20, 12)
	s.Bars = pairs(12)[:64]
	zero := slices.Repeat(vecs("0 0 0"), 32)
	a := arguments{
		truss: s, loads: zero, motion: zero, cases: slices.Repeat([][]api.Vec{zero}, 16),
		table:      slices.Repeat([][]api.Rat{slices.Repeat([]api.Rat{"1"}, 16)}, 16),
		forces:     statics.Forces{Bars: slices.Repeat([]api.Rat{"0"}, 64), Nodes: zero},
		capacities: slices.Repeat([][2]api.Rat{{"0", digits(600)}}, 64), half: api.Half{N: [3]int{1, 0, 0}, D: "1"},
	}
	wanted := map[string]api.Errno{"Solve": api.ErrFree, "Worst": api.ErrFree, "Refuse": api.ErrNone, "CheckRefuse": api.ErrProof, "Brace": api.ErrMany}
	for _, c := range calls() {
		wantCall(t, "as much as there may be", c, a, wanted[c.name])
	}
}

// TestArgumentsAreNotChanged has the same arguments, and the same results, for two calls, of which the results are changed in between.
func TestArgumentsAreNotChanged(t *testing.T) {
	for _, c := range calls() {
		a := good(c.name)
		first, e := c.run(a)
		wantError(t, c.name, e, api.OK)
		again, _ := c.run(good(c.name))
		scrap(reflect.ValueOf(&first).Elem())
		if !reflect.DeepEqual(a, good(c.name)) {
			t.Errorf("%s changed its arguments to %v", c.name, a)
		}
		if second, _ := c.run(a); !reflect.DeepEqual(second, again) {
			t.Errorf("%s: got %v, and then %v", c.name, again, second)
		}
	}
	l := axes("0 0 0, 0 0 4, 0 0 2, 3 0 2")
	first, e := statics.FromAxes(l)
	wantError(t, "FromAxes", e, api.OK)
	again, _ := statics.FromAxes(l)
	first.Nodes[0], first.Bars[0], first.Held[0] = api.Vec{}, api.Bar{}, loose
	second, _ := statics.FromAxes(l)
	if !reflect.DeepEqual(l, axes("0 0 0, 0 0 4, 0 0 2, 3 0 2")) || !reflect.DeepEqual(again, second) {
		t.Errorf("FromAxes: got %v, and then %v", again, second)
	}
}

// scrap changes all elements of the lists of a result.
func scrap(v reflect.Value) {
	switch v.Kind() {
	case reflect.Interface:
		scrap(v.Elem())
	case reflect.Struct:
		for i := range v.NumField() {
			scrap(v.Field(i))
		}
	case reflect.Slice:
		for i := range v.Len() {
			scrap(v.Index(i))
			v.Index(i).SetZero()
		}
	}
}

// TestListsOfResultsShareNoMemory changes one list of a result, and looks at the next one.
func TestListsOfResultsShareNoMemory(t *testing.T) {
	s := tripod()
	s.Bars = nil
	l, e := statics.Motions(s)
	wantError(t, "Motions", e, api.OK)
	_ = append(l[0], vec("9 9 9"))
	l[0][2] = api.Vec{}
	want(t, "Motions", l[1], e, at("0 1 0"), api.OK)
	c, e := statics.Combine(s, [][]api.Vec{at("1 2 3")}, [][]api.Rat{{"1"}, {"1"}})
	wantError(t, "Combine", e, api.OK)
	_ = append(c[0], vec("9 9 9"))
	c[0][2] = api.Vec{}
	want(t, "Combine", c[1], e, at("1 2 3"), api.OK)
}

// TestArgumentsOfAnyForm has any numbers and lists: all functions have some result for them.
func TestArgumentsOfAnyForm(t *testing.T) {
	s := newSource(9)
	all := wrongs()
	for range 3000 {
		a := good("")
		for range s.from(1, 5) {
			all[s.Intn(len(all))].change(remade(&a))
		}
		if s.Intn(3) == 0 {
			a.truss = s.truss(5)
		}
		for _, c := range calls() {
			r, e := c.run(a)
			if v := reflect.ValueOf(r); e != api.OK && r != nil && !v.IsZero() && !(v.Kind() == reflect.Slice && v.Len() == 0) {
				t.Errorf("%s: got %v beside error %d", c.name, r, e)
			}
		}
	}
}

// remade gives arguments the lists that changes of single elements need.
func remade(a *arguments) *arguments {
	g := good("")
	if len(a.truss.Nodes) < 3 || len(a.truss.Held) < 2 {
		a.truss = g.truss
	}
	if len(a.cases) < 2 {
		a.cases = g.cases
	}
	if len(a.table) < 2 || len(a.table[1]) < 2 {
		a.table = g.table
	}
	if len(a.forces.Bars) < 1 {
		a.forces = g.forces
	}
	if len(a.capacities) < 1 {
		a.capacities = g.capacities
	}
	return a
}
