package nest_test

import (
	"reflect"
	"slices"
	"testing"

	"trunnel/api"
	"trunnel/nest"
)

// P1, and the errors of arguments of P6.1 to P6.3.

// arguments are those of any function of stocks; each one takes some of them.
type arguments struct {
	beams  []api.Beam
	pieces []int
	kerf   int
	l      []api.Placing
	price  api.Rat
}

// call is a function of stocks, with the arguments that it takes behind each other.
type call struct {
	name string
	of   string // b, beams, p, pieces, k, the kerf, l, a placing, and r, a price
	run  func(a arguments) (any, api.Errno)
}

func calls() []call {
	return []call{
		{"CheckBeams", "b", func(a arguments) (any, api.Errno) { return nil, nest.CheckBeams(a.beams) }},
		{"CheckPieces", "p", func(a arguments) (any, api.Errno) { return nil, nest.CheckPieces(a.pieces) }},
		{"Gaps", "b", func(a arguments) (any, api.Errno) { return result(nest.Gaps(a.beams[0])) }},
		{"Capacity", "bk", func(a arguments) (any, api.Errno) { return result(nest.Capacity(a.beams[0], a.kerf)) }},
		{"Need", "pk", func(a arguments) (any, api.Errno) { return result(nest.Need(a.pieces, a.kerf)) }},
		{"CheckPlacing", "bpkl", func(a arguments) (any, api.Errno) {
			return nil, nest.CheckPlacing(a.beams, a.pieces, a.kerf, a.l)
		}},
		{"Length", "bpkl", func(a arguments) (any, api.Errno) { return result(nest.Length(a.beams, a.pieces, a.kerf, a.l)) }},
		{"Waste", "bpkl", func(a arguments) (any, api.Errno) { return result(nest.Waste(a.beams, a.pieces, a.kerf, a.l)) }},
		{"First", "bpk", func(a arguments) (any, api.Errno) { return result(nest.First(a.beams, a.pieces, a.kerf)) }},
		{"Falling", "bpk", func(a arguments) (any, api.Errno) { return result(nest.Falling(a.beams, a.pieces, a.kerf)) }},
		{"Best", "bpk", func(a arguments) (any, api.Errno) { return result(nest.Best(a.beams, a.pieces, a.kerf)) }},
		{"Value", "bpkr", func(a arguments) (any, api.Errno) { return result(nest.Value(a.beams, a.pieces, a.kerf, a.price)) }},
		{"Price", "bpk", func(a arguments) (any, api.Errno) { return result(nest.Price(a.beams, a.pieces, a.kerf)) }},
		{"Bound", "bpk", func(a arguments) (any, api.Errno) { return result(nest.Bound(a.beams, a.pieces, a.kerf)) }},
		{"Excess", "bpkl", func(a arguments) (any, api.Errno) { return result(nest.Excess(a.beams, a.pieces, a.kerf, a.l)) }},
	}
}

func result[T any](r T, e api.Errno) (any, api.Errno) { return r, e }

// good returns arguments without errors, of which all functions make something.
func good() arguments {
	return arguments{stock(), parts(), 5, on(0, 0, 0, 50, 1, 0), "12/13"}
}

// wantCall compares the error of a call, beside which there is no other result.
func wantCall(t *testing.T, what string, c call, a arguments, wanted api.Errno) {
	t.Helper()
	r, e := c.run(a)
	wantError(t, c.name+" of "+what, e, wanted)
	if v := reflect.ValueOf(r); e != api.OK && r != nil && !v.IsZero() && !(v.Kind() == reflect.Slice && v.Len() == 0) {
		t.Errorf("%s of %s: got %v beside an error", c.name, what, r)
	}
}

// TestErrorsOfArguments has all sets of wrong arguments: the first one that a function takes decides.
func TestErrorsOfArguments(t *testing.T) {
	const order = "bpklr"
	errors := []api.Errno{api.ErrOrder, api.ErrMany, api.ErrRange, api.ErrUnknown, api.ErrForm}
	for _, c := range calls() {
		for set := range 1 << len(order) {
			a, wanted := good(), api.OK
			for i := len(order) - 1; i >= 0; i-- {
				if set>>i&1 == 0 {
					continue
				}
				switch order[i] {
				case 'b':
					a.beams[0].Defects = [][2]int{{40, 50}, {49, 50}}
				case 'p':
					a.pieces = make([]int, 65)
				case 'k':
					a.kerf = -1
				case 'l':
					a.l[0].Beam = 2
				case 'r':
					a.price = "2/2"
				}
				if slices.Contains([]byte(c.of), order[i]) {
					wanted = errors[i]
				}
			}
			wantCall(t, "wrong arguments", c, a, wanted)
		}
	}
}

// TestErrorsOfEachArgument has all errors of beams, pieces and kerfs.
func TestErrorsOfEachArgument(t *testing.T) {
	for _, c := range calls() {
		takes := func(argument byte) bool { return slices.Contains([]byte(c.of), argument) }
		for e, wrong := range wrongBeams() {
			for _, b := range wrong {
				if a := good(); takes('b') {
					a.beams[0] = b
					wantCall(t, "a wrong beam", c, a, e)
				}
			}
		}
		if a := good(); takes('b') && c.name != "Gaps" && c.name != "Capacity" {
			a.beams = bars(33, 0)
			wantCall(t, "33 beams", c, a, api.ErrMany)
		}
		for _, length := range []int{0, -1, above, huge, -huge - 1} {
			if a := good(); takes('p') {
				a.pieces[2] = length
				wantCall(t, "a wrong piece", c, a, api.ErrRange)
			}
		}
		for _, kerf := range []int{-1, above, huge, -huge - 1} {
			if a := good(); takes('k') {
				a.kerf = kerf
				wantCall(t, "a wrong kerf", c, a, api.ErrRange)
			}
		}
	}
}

// TestLimitsOfArguments has the largest kerf, and as many beams and pieces as there may be.
func TestLimitsOfArguments(t *testing.T) {
	for _, c := range calls() {
		a := arguments{bars(32, most), slices.Repeat([]int{1}, 32), most, nil, "1"}
		for i := range a.pieces {
			a.l = append(a.l, api.Placing{Beam: i, At: most - 1})
		}
		wanted := api.OK
		if c.name == "Best" {
			wanted = api.ErrLimit
		}
		wantCall(t, "32 beams with the largest kerf", c, a, wanted)
		a = arguments{bars(1, 64), slices.Repeat([]int{1}, 64), 0, nil, "1"}
		for i := range a.pieces {
			a.l = append(a.l, api.Placing{At: 63 - i})
		}
		wantCall(t, "64 pieces without a kerf", c, a, wanted)
	}
}

// TestArgumentsAreNotChanged has the same arguments, and the same results, for two calls, of which the results are changed in between.
func TestArgumentsAreNotChanged(t *testing.T) {
	for _, c := range calls() {
		a := good()
		first, e := c.run(a)
		wantError(t, c.name, e, api.OK)
		again, _ := c.run(good())
		if v := reflect.ValueOf(first); v.Kind() == reflect.Slice {
			for i := range v.Len() {
				v.Index(i).SetZero()
			}
		}
		if !reflect.DeepEqual(a, good()) {
			t.Errorf("%s changed its arguments to %v", c.name, a)
		}
		if second, _ := c.run(a); !reflect.DeepEqual(second, again) {
			t.Errorf("%s: got %v, and then %v", c.name, again, second)
		}
	}
	logs, sections := []int{10, 7, 5}, [][2]int{{1, 1}, {6, 8}}
	_, e := nest.Match(logs, sections)
	want(t, "the logs of Match", logs, e, []int{10, 7, 5}, api.OK)
	want(t, "the sections of Match", sections, e, [][2]int{{1, 1}, {6, 8}}, api.OK)
}

// TestArgumentsOfAnyForm has any numbers: all functions have some result for them.
func TestArgumentsOfAnyForm(t *testing.T) {
	s := newSource(9)
	numbers := []int{0, 1, 2, 3, 5, 8, -1, 60, 100, 10000, 10001, most, above, huge, huge - 1, -huge, -huge - 1}
	prices := []api.Rat{"", "0", "1", "-1", "1/2", "2/4", "x", digits(600), digits(601), "1/" + digits(600)}
	some := func(least int) int {
		if s.Intn(8) > 0 {
			return numbers[least+s.Intn(4)]
		}
		return numbers[s.Intn(len(numbers))]
	}
	for range 5000 {
		a := arguments{kerf: some(0), price: prices[s.Intn(len(prices))]}
		for range s.Intn(5) {
			b := bar(some(3))
			for range s.Intn(3) {
				b.Defects = append(b.Defects, [2]int{some(0), some(1)})
			}
			a.beams = append(a.beams, b)
		}
		for range s.Intn(5) {
			a.pieces = append(a.pieces, some(1))
			a.l = append(a.l, api.Placing{Beam: some(0), At: some(0)})
		}
		if s.Intn(8) == 0 {
			a.l = append(a.l, api.Placing{})
		}
		for _, c := range calls() {
			if len(a.beams) > 0 || c.name != "Gaps" && c.name != "Capacity" {
				c.run(a)
			}
		}
		nest.Fits(some(0), some(1), some(2))
		nest.Highest(some(1), some(0))
		nest.Strongest(some(1))
		nest.Boards(some(2), some(0), some(0), some(1))
		nest.BestBoards(some(2), some(0), some(0))
		nest.Match(a.pieces, [][2]int{{some(0), some(1)}, {some(1), some(1)}}[:s.Intn(3)])
	}
}
