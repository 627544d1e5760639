package statics_test

import (
	"math/rand"
	"reflect"
	"slices"
	"strconv"
	"strings"
	"testing"

	"trunnel/api"
	"trunnel/statics"
)

// want reports a result or an error that is not the wanted one; empty lists are equal.
func want[T any](t *testing.T, what string, got T, e api.Errno, wanted T, wantedErr api.Errno) {
	t.Helper()
	if e != wantedErr || !alike(reflect.ValueOf(got), reflect.ValueOf(wanted)) {
		t.Errorf("%s: got %v, error %d; want %v, error %d", what, got, e, wanted, wantedErr)
	}
}

// alike is reflect.DeepEqual, but for empty lists, which are equal at any depth.
func alike(a, b reflect.Value) bool {
	switch a.Kind() {
	case reflect.Slice, reflect.Array:
		if a.Len() != b.Len() {
			return false
		}
		for i := range a.Len() {
			if !alike(a.Index(i), b.Index(i)) {
				return false
			}
		}
		return true
	case reflect.Struct:
		for i := range a.NumField() {
			if !alike(a.Field(i), b.Field(i)) {
				return false
			}
		}
		return true
	}
	return a.Equal(b)
}

// wantError reports an error that is not the wanted one.
func wantError(t *testing.T, what string, e, wanted api.Errno) {
	t.Helper()
	want(t, what, 0, e, 0, wanted)
}

// sure returns a result without an error.
func sure[T any](t *testing.T, what string) func(T, api.Errno) T {
	return func(got T, e api.Errno) T {
		t.Helper()
		wantError(t, what, e, api.OK)
		return got
	}
}

// nines returns the largest integer of so many digits, and ten the smallest one of one more.
func nines(digits int) api.Rat { return api.Rat(strings.Repeat("9", digits)) }

func ten(digits int) api.Rat { return "1" + api.Rat(strings.Repeat("0", digits)) }

// Supports of nodes.
var (
	held   = [3]bool{true, true, true}
	onLine = [3]bool{false, true, true}  // free in x
	flat   = [3]bool{false, false, true} // held in z
	loose  = [3]bool{}
)

// vec returns a vector of texts with spaces between them, and vecs a list of them, with commas between them.
func vec(text string) api.Vec {
	var v api.Vec
	for i, x := range strings.Fields(text) {
		v[i] = api.Rat(x)
	}
	return v
}

func vecs(text string) []api.Vec {
	var l []api.Vec
	for part := range strings.SplitSeq(text, ",") {
		l = append(l, vec(part))
	}
	return l
}

// bars returns the bars between pairs of numbers.
func bars(numbers ...int) []api.Bar {
	var l []api.Bar
	for p := range slices.Chunk(numbers, 2) {
		l = append(l, api.Bar{From: p[0], To: p[1]})
	}
	return l
}

// tripod returns the truss of the examples.
func tripod() api.Truss {
	return api.Truss{Nodes: vecs("0 0 0, 4 0 0, 0 3 0"), Held: [][3]bool{held, held, flat}, Bars: bars(0, 2, 1, 2)}
}

// hinge returns it without the bar 1-2.
func hinge() api.Truss {
	t := tripod()
	t.Bars = bars(0, 2)
	return t
}

// closed returns it with the bar 0-1.
func closed() api.Truss {
	t := tripod()
	t.Bars = bars(0, 2, 0, 1, 1, 2)
	return t
}

// at returns loads, or a motion, of the examples: a vector for the node 2, and 0 for the other ones.
func at(text string) []api.Vec { return append(vecs("0 0 0, 0 0 0"), vec(text)) }

// row returns nodes on a line, of which those in the middle are free in x, with bars between the ones that are next to
// each other.
func row(places ...api.Rat) api.Truss {
	var t api.Truss
	for i, x := range places {
		t.Nodes = append(t.Nodes, api.Vec{x, "0", "0"})
		t.Held = append(t.Held, onLine)
		if i > 0 {
			t.Bars = append(t.Bars, api.Bar{From: i - 1, To: i})
		}
	}
	t.Held[0], t.Held[len(places)-1] = held, held
	return t
}

// source makes arguments, the same ones in each run.
type source struct{ *rand.Rand }

func newSource(seed int64) source { return source{rand.New(rand.NewSource(seed))} }

// from returns a number from a least to a most one.
func (s source) from(least, most int) int { return least + s.Intn(most-least+1) }

// number returns a number that is often 0, and sometimes not an integer.
func (s source) number() api.Rat {
	switch s.Intn(8) {
	case 0, 1:
		return "0"
	case 2:
		return []api.Rat{"1/2", "-1/2", "3/2", "-5/3", "2/7"}[s.Intn(5)]
	}
	return api.Rat(strconv.Itoa(s.from(-4, 4)))
}

func (s source) vec() api.Vec { return api.Vec{s.number(), s.number(), s.number()} }

// vecs returns vectors, most of which are 0 in some coordinates.
func (s source) vecs(count int) []api.Vec {
	l := make([]api.Vec, count)
	for i := range l {
		l[i] = s.vec()
	}
	return l
}

// truss returns a truss of so many nodes at most, of any kind.
func (s source) truss(nodes int) api.Truss {
	var t api.Truss
	holds, joins := s.from(1, 4), s.from(0, 4)
	for i := range s.from(1, nodes) {
		node := s.vec()
		for slices.Contains(t.Nodes, node) {
			node = s.vec()
		}
		t.Nodes = append(t.Nodes, node)
		t.Held = append(t.Held, [3]bool{s.Intn(5) < holds, s.Intn(5) < holds, s.Intn(5) < holds})
		for j := range i {
			if s.Intn(4) < joins {
				t.Bars = append(t.Bars, api.Bar{From: j, To: i})
			}
		}
	}
	s.Shuffle(len(t.Bars), func(i, j int) { t.Bars[i], t.Bars[j] = t.Bars[j], t.Bars[i] })
	return t
}

// numbers returns so many numbers.
func (s source) numbers(count int) []api.Rat {
	l := make([]api.Rat, count)
	for i := range l {
		l[i] = s.number()
	}
	return l
}

// forces returns forces of a truss, which are hardly ever in equilibrium.
func (s source) forces(t api.Truss) statics.Forces {
	return statics.Forces{Bars: s.numbers(len(t.Bars)), Nodes: s.vecs(len(t.Nodes))}
}

// loads returns loads of a truss, often those that some forces carry.
func (s source) loads(t api.Truss) []api.Vec {
	loads := s.vecs(len(t.Nodes))
	if s.Intn(4) == 0 {
		return loads
	}
	return texts(balanced(t, s.numbers(len(t.Bars)), loads))
}

// digits returns a number of so many digits.
func digits(n int) api.Rat { return api.Rat(strings.Repeat("7", n)) }
