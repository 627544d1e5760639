package draw_test

import (
	"slices"
	"strings"
	"testing"

	"trunnel/api"
	"trunnel/draw"
)

// P1, and the errors of arguments of P9.1 to P9.4, and their order.

// arguments are those of any function; each one takes some of them.
type arguments struct {
	v      api.View
	p      api.Vec
	f      api.Frame
	size   api.Vec
	s      api.Solid
	solids []api.Solid
	l      []api.Line
	b      api.Body
	d      api.Vec
}

// good returns arguments without errors.
func good() arguments {
	return arguments{front(), vec("1 3 1"), plain(vec("1 2 3")), vec("4 2 1"), near(), []api.Solid{near(), behind()}, bothLines(), near()[0], vec("2 0 0")}
}

// call is a function.
type call struct {
	name string
	of   string // its arguments, in their order, and what is looked at behind them: see wrong
	run  func(a arguments) (any, api.Errno)
}

func result[T any](r T, e api.Errno) (any, api.Errno) { return r, e }

func calls() []call {
	return []call{
		{"CheckView", "v", func(a arguments) (any, api.Errno) { return nil, draw.CheckView(a.v) }},
		{"Place", "vp", func(a arguments) (any, api.Errno) { return result(draw.Place(a.v, a.p)) }},
		{"Depth", "vp", func(a arguments) (any, api.Errno) { return result(draw.Depth(a.v, a.p)) }},
		{"MoveView", "vfu", func(a arguments) (any, api.Errno) { return result(draw.MoveView(a.v, a.f)) }},
		{"Faces", "fzr", func(a arguments) (any, api.Errno) { return result(draw.Faces(a.f, a.size)) }},
		{"Edges", "s", func(a arguments) (any, api.Errno) { return result(draw.Edges(a.s)) }},
		{"Hidden", "avp", func(a arguments) (any, api.Errno) { return result(draw.Hidden(a.solids, a.v, a.p)) }},
		{"Lines", "av", func(a arguments) (any, api.Errno) { return result(draw.Lines(a.solids, a.v)) }},
		{"IsDrawing", "avl", func(a arguments) (any, api.Errno) { return result(draw.IsDrawing(a.solids, a.v, a.l)) }},
		{"CheckLines", "l", func(a arguments) (any, api.Errno) { return nil, draw.CheckLines(a.l) }},
		{"Outline", "sve", func(a arguments) (any, api.Errno) { return result(draw.Outline(a.s, a.v)) }},
		{"Shadow", "bv", func(a arguments) (any, api.Errno) { return result(draw.Shadow(a.b, a.v)) }},
		{"Chain", "sd0e", func(a arguments) (any, api.Errno) { return result(draw.Chain(a.s, a.d)) }},
		{"Print", "l", func(a arguments) (any, api.Errno) { return result(draw.Print(a.l)) }},
	}
}

// wrong is a change of what a function looks at: v, a view, p, a point, f, a frame, u, its lengths, z, a size, r, the signs
// of its numbers, s, a solid, e, whether it has bodies, a, solids, l, lines, b, a body, d, a vector, 0, whether it is 0.
type wrong struct {
	of     rune
	what   string
	e      api.Errno
	change func(a *arguments)
}

func wrongViews() []wrong {
	return []wrong{
		{'v', "a view without numbers", api.ErrForm, func(a *arguments) { a.v = api.View{} }},
		{'v', "an origin that is none", api.ErrForm, func(a *arguments) { a.v.Origin[1] = "1/0" }},
		{'v', "a large vector", api.ErrLarge, func(a *arguments) { a.v.Up[2] = ten(601) }},
		{'v', "no vector to the right", api.ErrZero, func(a *arguments) { a.v.Right = vec("0 0 0") }},
		{'v', "vectors that are not orthogonal", api.ErrFrame, func(a *arguments) { a.v.Up[0] = "1" }},
		{'p', "a point that is none", api.ErrForm, func(a *arguments) { a.p[2] = "x" }},
		{'p', "a large point", api.ErrLarge, func(a *arguments) { a.p[0] = ten(601) }},
		{'f', "a frame that has no origin", api.ErrForm, func(a *arguments) { a.f.Origin[0] = "" }},
		{'f', "a large frame", api.ErrLarge, func(a *arguments) { a.f.Z[2] = ten(601) }},
		{'f', "a frame without an axis", api.ErrZero, func(a *arguments) { a.f.Y = vec("0 0 0") }},
		{'f', "a skew frame", api.ErrFrame, func(a *arguments) { a.f.Y[0] = "1" }},
		{'f', "a frame that is turned the wrong way", api.ErrFrame, func(a *arguments) { a.f.Y[1] = "-1" }},
		{'u', "a frame with other lengths", api.ErrFrame, func(a *arguments) { a.f.Y[1] = "2" }},
		{'z', "a size that is none", api.ErrForm, func(a *arguments) { a.size[1] = "x" }},
		{'z', "a large size", api.ErrLarge, func(a *arguments) { a.size[0] = ten(601) }},
		{'z', "a large size with a negative number", api.ErrLarge, func(a *arguments) { a.size = api.Vec{"-1", "1", ten(601)} }},
		{'r', "a size with a 0", api.ErrRange, func(a *arguments) { a.size[2] = "0" }},
		{'r', "a size with a negative number", api.ErrRange, func(a *arguments) { a.size[0] = "-1/2" }},
	}
}

// overlap returns a solid whose bodies overlap.
func overlap() api.Solid { return boxes("0 0 0 2 3 4, 1 1 1 3 4 5") }

func wrongSolids() []wrong {
	change := func(what string, e api.Errno, s api.Solid) []wrong {
		return []wrong{
			{'s', what, e, func(a *arguments) { a.s = s }},
			{'a', what, e, func(a *arguments) { a.solids[1] = s }},
			{'a', what + " ahead of another error", e, func(a *arguments) { a.solids = []api.Solid{near(), s, {near()[0][1:]}} }},
		}
	}
	body := func(what string, e api.Errno, b api.Body) []wrong {
		return append(change(what, e, api.Solid{b}), wrong{'b', what, e, func(a *arguments) { a.b = b }})
	}
	backwards := near()[0]
	slices.Reverse(backwards)
	many := func(count int) []api.Solid { return slices.Repeat([]api.Solid{near()}, count) }
	return slices.Concat(
		body("a body of 33 half-spaces", api.ErrMany, make(api.Body, 33)),
		body("a half-space without a normal", api.ErrZero, append(near()[0], half(0, 0, 0, "0"))),
		body("a half-space in a wrong form", api.ErrForm, append(near()[0], half(2, 0, 0, "0"))),
		body("a half-space with a great normal", api.ErrRange, append(near()[0], half(1000000000, 1, 0, "0"))),
		body("a half-space with a large D", api.ErrLarge, append(near()[0], half(2, 1, 0, ten(601)))),
		body("half-spaces in a wrong order", api.ErrOrder, backwards),
		body("a body that is not bounded", api.ErrOpen, near()[0][1:]),
		body("a body of no half-spaces", api.ErrOpen, nil),
		body("a body without interior points", api.ErrEmpty, append(near()[0][:5:5], half(1, 0, 0, "0"))),
		body("a superfluous half-space", api.ErrForm, append(near()[0], half(1, 1, 1, "100"))),
		change("a solid of 65 bodies", api.ErrMany, make(api.Solid, 65)),
		change("a solid whose bodies overlap", api.ErrClash, overlap()),
		change("a solid with a body twice", api.ErrClash, append(near(), near()...)),
		[]wrong{
			{'a', "65 solids", api.ErrMany, func(a *arguments) { a.solids = many(65) }},
			{'a', "65 solids without bodies", api.ErrMany, func(a *arguments) { a.solids = make([]api.Solid, 65) }},
			{'a', "65 solids with errors", api.ErrMany, func(a *arguments) { a.solids = slices.Repeat([]api.Solid{overlap()}, 65) }},
			{'a', "64 solids with an error at the end", api.ErrClash, func(a *arguments) { a.solids = append(many(63), overlap()) }},
			{'e', "no bodies", api.ErrEmpty, func(a *arguments) { a.s = nil }},
			{'d', "a vector that is none", api.ErrForm, func(a *arguments) { a.d[2] = "00" }},
			{'d', "a large vector", api.ErrLarge, func(a *arguments) { a.d[1] = ten(601) }},
			{'0', "a vector that is 0", api.ErrZero, func(a *arguments) { a.d = vec("0 0 0") }},
		})
}

func wrongs() []wrong {
	all := append(wrongViews(), wrongSolids()...)
	for _, row := range wrongLines() {
		all = append(all, wrong{'l', row.what, row.e, func(a *arguments) { a.l = row.l }})
	}
	return all
}

func (c call) wantError(t *testing.T, what string, a arguments, wanted api.Errno) {
	t.Helper()
	r, e := c.run(a)
	wantKind(t, c.name+" of "+what, r, e, wanted)
}

func TestArgumentsWithoutErrors(t *testing.T) {
	for _, c := range calls() {
		c.wantError(t, "good arguments", good(), api.OK)
		a := good()
		a.solids = slices.Repeat([]api.Solid{near()}, 64)
		c.wantError(t, "64 solids", a, api.OK)
	}
}

func TestErrorsOfArguments(t *testing.T) {
	for _, c := range calls() {
		for _, w := range wrongs() {
			if strings.ContainsRune(c.of, w.of) {
				a := good()
				w.change(&a)
				c.wantError(t, w.what, a, w.e)
			}
		}
	}
}

func TestOrderOfErrors(t *testing.T) {
	for _, c := range calls() {
		for _, w := range wrongs() {
			for _, behind := range wrongs() {
				at, next := strings.IndexRune(c.of, w.of), strings.IndexRune(c.of, behind.of)
				// What is told by the same argument is changed once.
				same := strings.ContainsRune("se", w.of) && strings.ContainsRune("se", behind.of) ||
					strings.ContainsRune("d0", w.of) && strings.ContainsRune("d0", behind.of) ||
					strings.ContainsRune("zr", w.of) && strings.ContainsRune("zr", behind.of) ||
					strings.ContainsRune("fu", w.of) && strings.ContainsRune("fu", behind.of)
				if at >= 0 && next > at && !same {
					a := good()
					behind.change(&a)
					w.change(&a)
					c.wantError(t, w.what+" ahead of "+behind.what, a, w.e)
				}
			}
		}
	}
}

// Arguments of any form: nothing at all, and errors beside each other.
func TestAnyArguments(t *testing.T) {
	for _, c := range calls() {
		_, first := c.run(arguments{})
		_, again := c.run(arguments{})
		wantError(t, c.name+" of nothing, again", again, first)
		s := newSource(21)
		all := wrongs()
		for range 100 {
			a := good()
			for range 4 {
				all[s.Intn(len(all))].change(&a)
			}
			r, e := c.run(a)
			wantKind(t, c.name+" of any arguments", r, e, e)
		}
	}
}

func TestArgumentsAreNotChanged(t *testing.T) {
	for _, c := range calls() {
		a := good()
		a.solids = []api.Solid{near(), boxes("0 0 0 1 1 1, 1 0 0 2 1 1"), behind()}
		a.s = a.solids[1]
		before := good()
		before.solids, before.s = []api.Solid{near(), boxes("0 0 0 1 1 1, 1 0 0 2 1 1"), behind()}, boxes("0 0 0 1 1 1, 1 0 0 2 1 1")
		first, _ := c.run(a)
		want(t, "the arguments of "+c.name, a, api.OK, before, api.OK)
		again, _ := c.run(a)
		want(t, "the second result of "+c.name, again, api.OK, first, api.OK)
	}
	polygon, chain := round(5), upTo(5)
	sure(draw.Area(polygon))
	sure(draw.Steps(chain))
	want(t, "the argument of Area", polygon, api.OK, round(5), api.OK)
	want(t, "the argument of Steps", chain, api.OK, upTo(5), api.OK)
}
