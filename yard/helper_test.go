package yard_test

import (
	"math/rand"
	"reflect"
	"slices"
	"strconv"
	"strings"
	"testing"

	"trunnel/api"
	"trunnel/yard"
)

// want reports a result or an error that is not the wanted one; empty lists are equal.
func want[T any](t *testing.T, what string, got T, e api.Errno, wanted T, wantedErr api.Errno) {
	t.Helper()
	if e != wantedErr || !alike(reflect.ValueOf(got), reflect.ValueOf(wanted)) {
		t.Errorf("%s: got %v, error %d; want %v, error %d", what, got, e, wanted, wantedErr)
	}
}

// alike is reflect.DeepEqual, but for empty lists, which are equal at any depth.
func alike(a, b reflect.Value) bool {
	switch a.Kind() {
	case reflect.Slice, reflect.Array:
		if a.Len() != b.Len() {
			return false
		}
		for i := range a.Len() {
			if !alike(a.Index(i), b.Index(i)) {
				return false
			}
		}
		return true
	case reflect.Struct:
		for i := range a.NumField() {
			if !alike(a.Field(i), b.Field(i)) {
				return false
			}
		}
		return true
	}
	return a.Equal(b)
}

// wantError reports an error that is not the wanted one.
func wantError(t *testing.T, what string, e, wanted api.Errno) {
	t.Helper()
	want(t, what, 0, e, 0, wanted)
}

// wantAt is want for a result with a place.
func wantAt[T any](t *testing.T, what string, got T, at int, e api.Errno, wanted T, wantedAt int, wantedErr api.Errno) {
	t.Helper()
	want(t, what, got, e, wanted, wantedErr)
	if at != wantedAt {
		t.Errorf("%s: got the place %d, want %d", what, at, wantedAt)
	}
}

// sure returns the result of a function that has no error here.
func sure[T any](result T, e api.Errno) T {
	if e != api.OK {
		panic("error " + strconv.Itoa(int(e)))
	}
	return result
}

// digits returns a number of so many digits.
func digits(n int) api.Rat { return api.Rat(strings.Repeat("7", n)) }

// ten returns the least number of so many digits.
func ten(digits int) api.Rat { return "1" + api.Rat(strings.Repeat("0", digits-1)) }

// long returns a name of so many bytes.
func long(bytes int) string { return strings.Repeat("n", bytes) }

// vec returns a vector of texts with spaces between them.
func vec(text string) api.Vec {
	var v api.Vec
	for i, x := range strings.Fields(text) {
		v[i] = api.Rat(x)
	}
	return v
}

// number, name and op return expressions.
func number(n int) yard.Expr { return yard.Expr{Op: "number", Number: n} }

func name(s string) yard.Expr { return yard.Expr{Op: "name", Name: s} }

func op(o string, operands ...yard.Expr) yard.Expr { return yard.Expr{Op: o, Args: operands} }

// expr returns the expression with a text.
func expr(text string) yard.Expr {
	e, _, err := yard.ReadExpr(text)
	return sure(e, err)
}

// chain returns an expression of so many levels.
func chain(levels int) yard.Expr {
	e := number(1)
	for range levels - 1 {
		e = op("neg", e)
	}
	return e
}

// wide returns an expression with so many ones in it, an odd number, nested as little as possible.
func wide(count int) yard.Expr {
	if count == 1 {
		return number(1)
	}
	left := (count - 1) / 2
	if left%2 == 0 {
		left--
	}
	return op("+", wide(left), wide(count-1-left))
}

// endless returns an expression that contains itself.
func endless() yard.Expr {
	operands := make([]yard.Expr, 1)
	operands[0] = op("neg", operands...)
	return operands[0]
}

// line returns a line of a plan.
func line(text string) yard.Line {
	return plan(text + "\n").Lines[0]
}

// plan returns the plan with lines, of the name H.
func plan(lines string) yard.Plan {
	p, _, e := yard.Read("frame H\n" + lines)
	return sure(p, e)
}

// timbers returns the timbers of a plan with lines.
func timbers(lines string) api.Timbers { return sure(yard.Expand(plan(lines))) }

// hall is the text of the chapter's plan, and hallLines its lines.
const hallLines = "param w 4\nbent b\npost p 0 0 0 6 1 1\nend\nrow b n 3 w 0 0\nbeam t 0 0 6 2*w+1 1 1\nhousing n1_p t\n"
const hall = "frame H\n" + hallLines

// kind is a row of the table of kinds of lines.
type kind struct {
	kind          string
	names, values int
}

func kinds() []kind {
	return []kind{
		{"param", 1, 1}, {"member", 1, 15}, {"post", 1, 6}, {"beam", 1, 6}, {"plate", 1, 6}, {"brace", 1, 8}, {"rafter", 1, 8},
		{"housing", 2, 0}, {"birdsmouth", 2, 0}, {"tenon", 2, 6}, {"lap", 2, 2}, {"scarf", 2, 2}, {"dovetail", 2, 7}, {"peg", 2, 5},
		{"bent", 1, 0}, {"end", 0, 0}, {"place", 2, 3}, {"row", 2, 4},
	}
}

// sample returns a line of a kind, with the names A, B, and so on, and ones.
func (k kind) sample() yard.Line {
	return yard.Line{Kind: k.kind, Names: []string{"A", "B", "C"}[:k.names], Values: slices.Repeat([]yard.Expr{number(1)}, k.values)}
}

// source makes arguments, the same ones in each run.
type source struct{ *rand.Rand }

func newSource(seed int64) source { return source{rand.New(rand.NewSource(seed))} }

// from returns a number from a least to a most one.
func (s source) from(least, most int) int { return least + s.Intn(most-least+1) }

// choice returns one of several texts.
func (s source) choice(texts ...string) string { return texts[s.Intn(len(texts))] }

// expr returns an expression of at most so many levels, with some of the names.
func (s source) expr(levels int, names ...string) yard.Expr {
	if levels == 1 || s.Intn(4) == 0 {
		if len(names) > 0 && s.Intn(2) == 0 {
			return name(s.choice(names...))
		}
		return number(s.from(0, 3))
	}
	if s.Intn(5) == 0 {
		return op("neg", s.expr(levels-1, names...))
	}
	return op(s.choice("+", "-", "*", "/"), s.expr(levels-1, names...), s.expr(levels-1, names...))
}
