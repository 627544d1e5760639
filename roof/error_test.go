package roof_test

import (
	"math"
	"reflect"
	"slices"
	"testing"

	"trunnel/api"
	"trunnel/roof"
)

// P1, and the errors of arguments of P4.1 to P4.5.

// arguments are those of all functions of wings.
type arguments struct {
	roof   []api.Wing
	at     [2]api.Rat
	base   api.Rat
	i, j   int
	first  api.Rat
	spaced api.Rat
}

// some returns arguments with a roof, and without errors.
func some(wings ...api.Wing) arguments {
	return arguments{wings, [2]api.Rat{"1", "1"}, "-5", 0, 1, "1", "1"}
}

// call is a function of wings: of one (1), two (2), or a roof.
type call struct {
	name string
	of   int
	run  func(a arguments) (any, api.Errno)
}

func one[A any](a A, e api.Errno) (any, api.Errno) { return a, e }

func two[A, B any](a A, b B, e api.Errno) (any, api.Errno) {
	return struct {
		a A
		b B
	}{a, b}, e
}

func calls() []call {
	return []call{
		{"CheckWing", 1, func(a arguments) (any, api.Errno) { return 0, roof.CheckWing(a.roof[0]) }},
		{"CheckRoof", 0, func(a arguments) (any, api.Errno) { return 0, roof.CheckRoof(a.roof) }},
		{"Planes", 1, func(a arguments) (any, api.Errno) { return one(roof.Planes(a.roof[0])) }},
		{"Height", 0, func(a arguments) (any, api.Errno) { return one(roof.Height(a.roof, a.at)) }},
		{"Facing", 0, func(a arguments) (any, api.Errno) { return two(roof.Facing(a.roof, a.at)) }},
		{"Facets", 1, func(a arguments) (any, api.Errno) { return one(roof.Facets(a.roof[0])) }},
		{"Areas", 1, func(a arguments) (any, api.Errno) { return two(roof.Areas(a.roof[0])) }},
		{"Edges", 1, func(a arguments) (any, api.Errno) { return one(roof.Edges(a.roof[0])) }},
		{"Valleys", 2, func(a arguments) (any, api.Errno) { return one(roof.Valleys(a.roof[0], a.roof[1])) }},
		{"Body", 1, func(a arguments) (any, api.Errno) { return one(roof.Body(a.roof[0], a.base)) }},
		{"Solid", 0, func(a arguments) (any, api.Errno) { return one(roof.Solid(a.roof, a.base)) }},
		{"Volume", 0, func(a arguments) (any, api.Errno) { return one(roof.Volume(a.roof, a.base)) }},
		{"Line", 1, func(a arguments) (any, api.Errno) { return two(roof.Line(a.roof[0], a.i, a.j)) }},
		{"Backing", 1, func(a arguments) (any, api.Errno) { return two(roof.Backing(a.roof[0], a.i, a.j)) }},
		{"Cheek", 1, func(a arguments) (any, api.Errno) { return one(roof.Cheek(a.roof[0], a.i, a.j)) }},
		{"Rafters", 1, func(a arguments) (any, api.Errno) { return one(roof.Rafters(a.roof[0], a.i, a.first, a.spaced)) }},
	}
}

// wantCall compares the error of a call, beside which there is no other result.
func wantCall(t *testing.T, what string, c call, a arguments, wanted api.Errno) {
	t.Helper()
	result, e := c.run(a)
	wantError(t, c.name+" of "+what, e, wanted)
	if e != api.OK && !isNothing(reflect.ValueOf(result)) {
		t.Errorf("%s of %s: got %v beside an error", c.name, what, result)
	}
}

// isNothing reports whether a value is the zero value of its type, but for empty lists.
func isNothing(v reflect.Value) bool {
	switch v.Kind() {
	case reflect.Slice:
		return v.Len() == 0
	case reflect.Struct:
		for i := range v.NumField() {
			if !isNothing(v.Field(i)) {
				return false
			}
		}
		return true
	}
	return v.IsZero()
}

// TestErrorsOfWings has wings with errors, which come ahead of those of all other arguments.
func TestErrorsOfWings(t *testing.T) {
	for _, c := range calls() {
		wantCall(t, "good arguments", c, some(house(), gabled()), api.OK)
		for _, r := range wrongWings() {
			for _, a := range []arguments{some(r.wing, api.Wing{}), {roof: []api.Wing{r.wing, {}}, i: -1, j: 99}} {
				wantCall(t, r.what, c, a, r.e)
			}
			if c.of != 1 {
				wantCall(t, "another wing with "+r.what, c, some(house(), r.wing), r.e)
			}
		}
		if c.of == 0 {
			wantCall(t, "no wings", c, arguments{}, api.ErrEmpty)
			wantCall(t, "nine wings", c, arguments{roof: make([]api.Wing, 9)}, api.ErrMany)
			wantCall(t, "two wings", c, some(house(), house()), api.OK)
		}
	}
}

// TestErrorsOfOthers has errors of the arguments behind wings.
func TestErrorsOfOthers(t *testing.T) {
	for what, row := range map[string]struct {
		at [2]api.Rat
		e  api.Errno
	}{
		"no x": {[2]api.Rat{"", nines(601)}, api.ErrForm}, "a large x": {[2]api.Rat{nines(601), ""}, api.ErrLarge}, "no y": {[2]api.Rat{"1", "2/2"}, api.ErrForm}, "a large y": {[2]api.Rat{"1", nines(601)}, api.ErrLarge},
		"a place far away": {[2]api.Rat{nines(600), "-" + nines(600)}, api.ErrNone},
	} {
		for _, c := range calls() {
			if c.name == "Height" || c.name == "Facing" {
				a := some(house(), gabled())
				a.at = row.at
				wantCall(t, what, c, a, row.e)
			}
		}
	}
	for _, c := range calls() {
		if c.name != "Line" && c.name != "Backing" && c.name != "Cheek" && c.name != "Rafters" {
			continue
		}
		for _, number := range []int{-1, 4, 12, math.MaxInt, math.MinInt, 1, 3} { // 1 and 3 are gables
			a := some(gabled())
			a.i = number
			wantCall(t, "another i", c, a, api.ErrUnknown)
			a.i, a.j = 0, number
			if c.name != "Rafters" {
				wantCall(t, "another j", c, a, api.ErrUnknown)
			}
		}
	}
}

// TestAnyArguments calls all functions with arguments of any form (P1).
func TestAnyArguments(t *testing.T) {
	s := newSource(30)
	texts := []api.Rat{"", "0", "1", "-1", "8", "6", "3/4", "-0", "1/0", "2/4", "x", "\xff", "1e9", nines(600), "-" + nines(600), "1/" + nines(600), nines(601)}
	text := func() api.Rat { return texts[s.Intn(len(texts))] }
	numbers := []int{0, 1, 2, 3, -1, 4, 1000, math.MaxInt, math.MinInt}
	number := func() int { return numbers[s.Intn(len(numbers))] }
	for range 300 {
		l := []api.Wing{house(), gabled()}
		for k := range l {
			for range s.Intn(3) {
				switch i := s.Intn(4); s.Intn(5) {
				case 0:
					l[k].Corners[i][s.Intn(2)] = text()
				case 1:
					l[k].Height = text()
				case 2, 3:
					l[k].Slopes[i] = text()
				case 4:
					l[k].Corners[i], l[k].Corners[(i+1)%4] = l[k].Corners[(i+1)%4], l[k].Corners[i]
				}
			}
		}
		a := arguments{l, [2]api.Rat{text(), text()}, text(), number(), number(), text(), text()}
		for _, c := range calls() {
			result, e := c.run(a)
			if e != api.OK && !isNothing(reflect.ValueOf(result)) {
				t.Errorf("%s of %v: got %v beside the error %d", c.name, a, result, e)
			}
		}
		f, e := roof.Axis(api.Vec{text(), text(), text()}, api.Vec{text(), text(), text()})
		if e != api.OK && f != (api.Frame{}) {
			t.Errorf("Axis: got %v beside the error %d", f, e)
		}
		l2, e := both(roof.Setting(text(), number()))
		if e != api.OK && l2 != [2]int{} {
			t.Errorf("Setting: got %v beside the error %d", l2, e)
		}
	}
}

// TestArgumentsAreKept checks that no function changes its arguments, and that results do not share memory
// with them or with later ones.
func TestArgumentsAreKept(t *testing.T) {
	copyOf := func() arguments { return some(house(), gabled()) }
	for _, c := range calls() {
		a := copyOf()
		first, _ := c.run(a)
		if !reflect.DeepEqual(a, copyOf()) {
			t.Errorf("%s changes its arguments: %v", c.name, a)
		}
		again, _ := c.run(copyOf())
		for i := range a.roof {
			clear(a.roof[i].Corners)
			clear(a.roof[i].Slopes)
		}
		if !reflect.DeepEqual(first, again) {
			t.Errorf("%s: the result changes with the arguments, or from call to call: %v and %v", c.name, first, again)
		}
	}
	facets := sure(roof.Facets(house()))
	for i := range facets {
		clear(facets[i].Corners)
		if i+1 < len(facets) && slices.Contains(facets[i+1].Corners, [2]api.Rat{}) {
			t.Errorf("the facets %d and %d share memory", i, i+1)
		}
	}
}
