package solid_test

import (
	"reflect"
	"slices"
	"testing"

	"trunnel/api"
	"trunnel/solid"
)

// P1, and the order of errors of P2.1 to P2.5.

// call is a function, each of whose arguments may have an error: kinds tells their kinds, s a solid, b a body,
// f a frame, v a vector, h a half-space. Without errors it has the error e.
type call struct {
	name, kinds string
	run         func(a arguments) (any, api.Errno)
	e           api.Errno
}

// arguments makes the arguments of a call from left to right; those that are marked have an error.
type arguments struct {
	bad  []bool
	next *int
}

// wrong reports whether the next argument has an error.
func (a arguments) wrong() bool {
	*a.next++
	return a.bad[*a.next-1]
}

// Each kind has errors of its own, which differ for the first and the second argument, and from those behind the arguments.
func (a arguments) solid() api.Solid {
	b := block(0, 0, 0, 1, 1, 1)
	switch {
	case !a.wrong():
		return nil
	case *a.next == 1:
		return api.Solid{b, {half(0, 0, 1, "2"), half(0, 0, -1, "0")}}
	}
	return slices.Repeat(api.Solid{b}, 65)
}

func (a arguments) body() api.Body {
	b := block(0, 0, 0, 1, 1, 1)
	switch {
	case !a.wrong():
		return b
	case *a.next == 1:
		return append(b, half(1, 1, 1, "3"))
	}
	return b[1:]
}

func (a arguments) frame() api.Frame {
	f := plain(origin())
	if a.wrong() {
		f.X = api.Vec{"1", "1", "0"}
	}
	return f
}

func (a arguments) vec() api.Vec {
	if a.wrong() {
		return api.Vec{"0", digits(601), "x"}
	}
	return api.Vec{"0", "1", "2"}
}

func (a arguments) half() api.Half {
	if a.wrong() {
		return half(0, 1000000000, 0, "x")
	}
	return half(0, 1, 0, "1")
}

// errorOf returns the error of a kind of arguments, by the number of the argument.
func errorOf(kind byte, argument int) api.Errno {
	switch kind {
	case 's':
		return [2]api.Errno{api.ErrOrder, api.ErrMany}[argument]
	case 'b':
		return [2]api.Errno{api.ErrForm, api.ErrOpen}[argument]
	case 'f':
		return api.ErrFrame
	case 'v':
		return api.ErrLarge
	}
	return api.ErrRange
}

// pack makes a result one with any type.
func pack[T any](result T, e api.Errno) (any, api.Errno) { return result, e }

func calls() []call {
	return []call{
		{"CheckBody", "b", func(a arguments) (any, api.Errno) { return 0, solid.CheckBody(a.body()) }, api.OK},
		{"CheckSolid", "s", func(a arguments) (any, api.Errno) { return 0, solid.CheckSolid(a.solid()) }, api.OK},
		{"Box", "fv", func(a arguments) (any, api.Errno) { return pack(solid.Box(a.frame(), a.vec())) }, api.ErrRange},
		{"Corners", "b", func(a arguments) (any, api.Errno) { return pack(solid.Corners(a.body())) }, api.OK},
		{"Facets", "b", func(a arguments) (any, api.Errno) { return pack(solid.Facets(a.body())) }, api.OK},
		{"Areas", "b", func(a arguments) (any, api.Errno) { return pack(solid.Areas(a.body())) }, api.OK},
		{"Volume", "s", func(a arguments) (any, api.Errno) { return pack(solid.Volume(a.solid())) }, api.OK},
		{"Centre", "s", func(a arguments) (any, api.Errno) { return pack(solid.Centre(a.solid())) }, api.ErrEmpty},
		{"And", "ss", func(a arguments) (any, api.Errno) { return pack(solid.And(a.solid(), a.solid())) }, api.OK},
		{"Minus", "ss", func(a arguments) (any, api.Errno) { return pack(solid.Minus(a.solid(), a.solid())) }, api.OK},
		{"Union", "ss", func(a arguments) (any, api.Errno) { return pack(solid.Union(a.solid(), a.solid())) }, api.OK},
		{"Same", "ss", func(a arguments) (any, api.Errno) { return pack(solid.Same(a.solid(), a.solid())) }, api.OK},
		{"Cut", "sh", func(a arguments) (any, api.Errno) { return pack(solid.Cut(a.solid(), a.half())) }, api.OK},
		{"Position", "sv", func(a arguments) (any, api.Errno) { return pack(solid.Position(a.solid(), a.vec())) }, api.OK},
		{"Touch", "ssh", func(a arguments) (any, api.Errno) { return pack(solid.Touch(a.solid(), a.solid(), a.half())) }, api.OK},
		{"Contacts", "ss", func(a arguments) (any, api.Errno) { return pack(solid.Contacts(a.solid(), a.solid())) }, api.OK},
		{"Section", "sh", func(a arguments) (any, api.Errno) { return pack(solid.Section(a.solid(), a.half())) }, api.OK},
		{"Extent", "sv", func(a arguments) (any, api.Errno) {
			low, high, e := solid.Extent(a.solid(), a.vec())
			return low + high, e
		}, api.ErrEmpty},
		{"Move", "sf", func(a arguments) (any, api.Errno) { return pack(solid.Move(a.solid(), a.frame())) }, api.OK},
		{"Sweep", "bv", func(a arguments) (any, api.Errno) { return pack(solid.Sweep(a.body(), a.vec())) }, api.OK},
		{"Separate", "bb", func(a arguments) (any, api.Errno) { return pack(solid.Separate(a.body(), a.body())) }, api.ErrClash},
	}
}

// TestErrorsOfArguments has each choice of arguments with errors: the first one decides.
func TestErrorsOfArguments(t *testing.T) {
	for _, c := range calls() {
		for choice := range 1 << len(c.kinds) {
			wanted := c.e
			bad := make([]bool, len(c.kinds))
			for i := range bad {
				bad[i] = choice>>i&1 == 1
			}
			if first := slices.Index(bad, true); first >= 0 {
				wanted = errorOf(c.kinds[first], first)
			}
			result, e := c.run(arguments{bad, new(int)})
			wantError(t, c.name, e, wanted)
			if v := reflect.ValueOf(result); e != api.OK && !v.IsZero() && !(v.Kind() == reflect.Slice && v.Len() == 0) {
				t.Errorf("%s: got %v beside an error", c.name, result)
			}
		}
	}
}

// TestSolidsAreChecked has each error of a solid for the functions of solids.
func TestSolidsAreChecked(t *testing.T) {
	b := block(0, 0, 0, 1, 1, 1)
	for _, row := range []struct {
		s api.Solid
		e api.Errno
	}{
		{slices.Repeat(api.Solid{b}, 65), api.ErrMany}, {api.Solid{b, b}, api.ErrClash}, {api.Solid{b, nil}, api.ErrOpen},
		{api.Solid{block(0, 0, 0, 1, 1, 0)}, api.ErrEmpty}, {api.Solid{column(31, "1")}, api.ErrMany}, {api.Solid{{half(0, 0, 0, "0")}}, api.ErrZero},
	} {
		h := half(1, 0, 0, "1/2")
		_, volume := solid.Volume(row.s)
		_, and := solid.And(api.Solid{b}, row.s)
		_, minus := solid.Minus(row.s, nil)
		_, same := solid.Same(row.s, row.s)
		_, cut := solid.Cut(row.s, h)
		_, move := solid.Move(row.s, plain(origin()))
		_, position := solid.Position(row.s, origin())
		for _, e := range []api.Errno{volume, and, minus, same, cut, move, position} {
			wantError(t, "a function of a solid", e, row.e)
		}
	}
}

// TestArgumentsAreKept has results that share nothing with arguments, and arguments that stay as they are.
func TestArgumentsAreKept(t *testing.T) {
	b, c := block(0, 0, 0, 2, 3, 4), block(5, 0, 0, 6, 1, 1)
	mixed := []api.Half{b[5], b[3], b[4], b[2], b[0], b[1]}
	before := slices.Clone(mixed)
	normal, _ := solid.Normal(mixed)
	want(t, "the argument of Normal", mixed, api.OK, before, api.OK)
	normal[0].D = "x"
	want(t, "the argument of Normal", mixed, api.OK, before, api.OK)
	s := api.Solid{slices.Clone(b), slices.Clone(c)}
	union, _ := solid.Union(s, nil)
	part, _ := solid.Cut(s, half(1, 0, 0, "9"))
	moved, _ := solid.Move(s, plain(origin()))
	left, _ := solid.Minus(s, nil)
	swept, _ := solid.Sweep(s[0], origin())
	for _, body := range append(slices.Concat(union, part, moved, left), swept) {
		body[0].D = "x"
	}
	want(t, "the argument of operations", s, api.OK, api.Solid{b, c}, api.OK)
	points := []api.Vec{{"1", "0", "0"}, {"0", "0", "1"}, origin(), {"0", "1", "0"}}
	kept := slices.Clone(points)
	_, e := solid.Hull(points)
	want(t, "the argument of Hull", points, e, kept, api.OK)
}
