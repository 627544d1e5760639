package solid_test

import (
	"testing"

	"trunnel/api"
	"trunnel/solid"
	"trunnel/space"
)

// P2.3

func TestOperations(t *testing.T) {
	b, c := block(0, 0, 0, 2, 3, 4), block(1, 1, 1, 3, 4, 5)
	d := block(2, 0, 0, 3, 1, 1)
	rest := api.Solid{
		block(0, 0, 0, 1, 3, 4),
		{half(-1, 0, 0, "-1"), half(0, -1, 0, "0"), half(0, 0, -1, "0"), half(0, 0, 1, "4"), half(0, 1, 0, "1"), half(1, 0, 0, "2")},
		{half(-1, 0, 0, "-1"), half(0, -1, 0, "-1"), half(0, 0, -1, "0"), half(0, 0, 1, "1"), half(0, 1, 0, "3"), half(1, 0, 0, "2")},
	}
	for _, row := range []struct {
		what      string
		operation func(a, b api.Solid) (api.Solid, api.Errno)
		a, b      api.Solid
		s         api.Solid
	}{
		{"And", solid.And, api.Solid{b}, api.Solid{c}, api.Solid{block(1, 1, 1, 2, 3, 4)}},
		{"And of neighbours", solid.And, api.Solid{b}, api.Solid{d}, nil},
		{"And of nothing", solid.And, nil, api.Solid{b}, nil},
		{"And with nothing", solid.And, api.Solid{b}, nil, nil},
		{"And with a part", solid.And, api.Solid{b}, api.Solid{block(1, 1, 1, 2, 2, 2)}, api.Solid{block(1, 1, 1, 2, 2, 2)}},
		{"And of two and two", solid.And, api.Solid{block(0, 0, 0, 4, 1, 1), block(0, 2, 0, 4, 3, 1)}, api.Solid{block(2, 0, 0, 3, 3, 1), block(0, 0, 0, 1, 3, 1)},
			api.Solid{block(2, 0, 0, 3, 1, 1), block(0, 0, 0, 1, 1, 1), block(2, 2, 0, 3, 3, 1), block(0, 2, 0, 1, 3, 1)}},
		{"Minus", solid.Minus, api.Solid{b}, api.Solid{c}, rest},
		{"Minus a neighbour", solid.Minus, api.Solid{b}, api.Solid{d}, api.Solid{b}},
		{"Minus nothing", solid.Minus, api.Solid{d, b}, nil, api.Solid{d, b}},
		{"Minus from nothing", solid.Minus, nil, api.Solid{b}, nil},
		{"Minus itself", solid.Minus, api.Solid{b, d}, api.Solid{d, b}, nil},
		{"Minus more than all", solid.Minus, api.Solid{b}, api.Solid{block(-1, 0, 0, 2, 3, 4)}, nil},
		{"Minus the middle", solid.Minus, api.Solid{block(0, 0, 0, 3, 3, 3)}, api.Solid{block(1, 1, 1, 2, 2, 2)},
			api.Solid{block(0, 0, 0, 1, 3, 3), block(1, 0, 0, 3, 1, 3), block(1, 1, 0, 3, 3, 1), block(1, 1, 2, 3, 3, 3), block(1, 2, 1, 3, 3, 2), block(2, 1, 1, 3, 2, 2)}},
		{"Minus of the second body", solid.Minus, api.Solid{b, block(5, 0, 0, 7, 1, 1), d}, api.Solid{block(6, 0, 0, 8, 1, 1)}, api.Solid{b, block(5, 0, 0, 6, 1, 1), d}},
		{"Union", solid.Union, api.Solid{c}, api.Solid{b}, append(api.Solid{c}, rest...)},
		{"Union of neighbours", solid.Union, api.Solid{b}, api.Solid{d}, api.Solid{b, d}},
		{"Union with itself", solid.Union, api.Solid{b, d}, api.Solid{d, b}, api.Solid{b, d}},
		{"Union with a part", solid.Union, api.Solid{b}, api.Solid{block(1, 1, 1, 2, 2, 2)}, api.Solid{b}},
		{"Union of nothing", solid.Union, nil, nil, nil},
		{"Union with nothing", solid.Union, api.Solid{b}, nil, api.Solid{b}},
		{"Union of nothing with something", solid.Union, nil, api.Solid{b}, api.Solid{b}},
	} {
		got, e := row.operation(row.a, row.b)
		want(t, row.what, got, e, row.s, api.OK)
	}
}

func TestOperationsOfAnySolids(t *testing.T) {
	s := newSource(10)
	for range 40 {
		a, b, h := s.solid(2), s.solid(2), s.half()
		got, e := solid.And(a, b)
		want(t, "And", got, e, and(a, b), api.OK)
		wanted := minus(a, b)
		got, e = solid.Minus(a, b)
		want(t, "Minus", got, e, wanted, api.OK)
		got, e = solid.Union(b, a)
		want(t, "Union", got, e, append(append(api.Solid{}, b...), wanted...), api.OK)
		got, e = solid.Cut(a, h)
		want(t, "Cut", got, e, cut(a, h), api.OK)
		same, e := solid.Same(a, b)
		want(t, "Same", same, e, len(wanted) == 0 && len(minus(b, a)) == 0, api.OK)
	}
}

func TestCut(t *testing.T) {
	b, d := block(0, 0, 0, 2, 3, 4), block(2, 0, 0, 3, 1, 1)
	for _, row := range []struct {
		what string
		s    api.Solid
		h    api.Half
		want api.Solid
	}{
		{"a box", api.Solid{b}, half(1, 1, 0, "3"), api.Solid{{b[0], b[1], b[2], b[3], b[5], half(1, 1, 0, "3")}}},
		{"a corner", api.Solid{b}, half(1, 1, 1, "17/2"), api.Solid{{b[0], b[1], b[2], b[3], b[4], b[5], half(1, 1, 1, "17/2")}}},
		{"its facet", api.Solid{b}, half(1, 0, 0, "2"), api.Solid{b}},
		{"the other side of its facet", api.Solid{b}, half(-1, 0, 0, "-2"), nil},
		{"a plane at an edge", api.Solid{b}, half(1, 1, 0, "5"), api.Solid{b}},
		{"the other side of a plane at an edge", api.Solid{b}, half(-1, -1, 0, "-5"), nil},
		{"the outside", api.Solid{b}, half(1, 0, 0, "-1"), nil},
		{"nothing", nil, half(1, 0, 0, "1"), nil},
		{"two boxes", api.Solid{d, b}, half(0, 1, 0, "1/2"), api.Solid{
			{d[0], d[1], d[2], d[3], half(0, 1, 0, "1/2"), d[5]},
			{b[0], b[1], b[2], b[3], half(0, 1, 0, "1/2"), b[5]}}},
		{"one of two boxes", api.Solid{d, b}, half(1, 0, 0, "2"), api.Solid{b}},
	} {
		got, e := solid.Cut(row.s, row.h)
		want(t, "Cut by "+row.what, got, e, row.want, api.OK)
	}
}

func TestSame(t *testing.T) {
	b := block(0, 0, 0, 2, 3, 4)
	parts := api.Solid{block(1, 0, 0, 2, 3, 4), block(0, 0, 0, 1, 2, 4), block(0, 2, 0, 1, 3, 4)}
	for _, row := range []struct {
		what string
		a, b api.Solid
		same bool
	}{
		{"nothing", nil, nil, true},
		{"nothing and a box", nil, api.Solid{b}, false},
		{"a box and nothing", api.Solid{b}, nil, false},
		{"a box", api.Solid{b}, api.Solid{b}, true},
		{"a box and its parts", api.Solid{b}, parts, true},
		{"parts of a box and the box", parts, api.Solid{b}, true},
		{"parts in another order", parts, api.Solid{parts[2], parts[0], parts[1]}, true},
		{"a box and some of its parts", api.Solid{b}, parts[1:], false},
		{"some parts of a box and the box", parts[1:], api.Solid{b}, false},
		{"two boxes of the same size", api.Solid{b}, api.Solid{block(1, 0, 0, 3, 3, 4)}, false},
		{"a box and a slightly larger one", api.Solid{b}, api.Solid{{b[0], b[1], b[2], b[3], b[4], half(1, 0, 0, "2000001/1000000")}}, false},
	} {
		same, e := solid.Same(row.a, row.b)
		want(t, "Same of "+row.what, same, e, row.same, api.OK)
	}
}

// sticks returns boxes side by side, with gaps between them.
func sticks(n int) api.Solid {
	var s api.Solid
	for i := range n {
		s = append(s, block(2*i, 0, 0, 2*i+1, 1, 1))
	}
	return s
}

func TestOperationLimits(t *testing.T) {
	plate := func(z0, z1 int) api.Body { return block(0, 0, z0, 200, 2, z1) }
	for _, row := range []struct {
		what      string
		operation func(a, b api.Solid) (api.Solid, api.Errno)
		a, b      api.Solid
		e         api.Errno
	}{
		{"And with 64 bodies", solid.And, api.Solid{plate(0, 2)}, sticks(64), api.OK},
		{"And with 66 bodies", solid.And, sticks(33), api.Solid{upper("1/2"), lower("1/2")}, api.ErrMany},
		{"And with 64 parts of 32 bodies", solid.And, sticks(32), api.Solid{upper("1/2"), lower("1/2")}, api.OK},
		{"Minus with 65 bodies", solid.Minus, api.Solid{block(-1, 0, 0, 200, 1, 1)}, sticks(64), api.ErrMany},
		{"Minus with 64 bodies", solid.Minus, api.Solid{block(-1, 0, 0, 200, 1, 1)}, sticks(63), api.OK},
		{"Union with 65 bodies", solid.Union, sticks(64), api.Solid{block(0, 1, 0, 1, 2, 1)}, api.ErrMany},
		{"Union with 64 bodies", solid.Union, sticks(63), api.Solid{block(0, 1, 0, 1, 2, 1)}, api.OK},
		{"And with 33 half-spaces", solid.And, api.Solid{column(30, "1")}, api.Solid{corner()}, api.ErrMany},
		{"Minus with 33 half-spaces", solid.Minus, api.Solid{column(30, "1")}, api.Solid{beyond()}, api.ErrMany},
		{"Union with 33 half-spaces", solid.Union, api.Solid{beyond()}, api.Solid{column(30, "1")}, api.ErrMany},
	} {
		got, e := row.operation(row.a, row.b)
		wantError(t, row.what, e, row.e)
		if e != api.OK && got != nil {
			t.Errorf("%s: got a result beside an error", row.what)
		}
	}
	got, e := solid.Cut(api.Solid{column(30, "1")}, top())
	want(t, "Cut with 33 half-spaces", got, e, nil, api.ErrMany)
	got, e = solid.Cut(api.Solid{column(29, "1")}, top())
	want(t, "Cut with 32 half-spaces", got, e, cut(api.Solid{column(29, "1")}, top()), api.OK)
}

// upper and lower return what is above and below a height of a plate.
func upper(z api.Rat) api.Body {
	b := block(0, 0, 0, 200, 1, 1)
	b[2].D = sure(space.Sub("0", z))
	return b
}

func lower(z api.Rat) api.Body {
	b := block(0, 0, 0, 200, 1, 1)
	b[3].D = z
	return b
}

// top returns a half-space that cuts a small corner off the top of a column with the radius 1.
func top() api.Half { return half(1, 0, 100, "1009/10") }

// corner returns a body round a column with the radius 1 but for a corner that top cuts off; beyond returns a body that contains this corner alone.
func corner() api.Body { return sure(solid.Normal(append(block(-2, -2, -2, 2, 2, 2), top()))) }

func beyond() api.Body {
	return sure(solid.Normal(append(block(-2, -2, -2, 2, 2, 2), sure(space.Opposite(top())))))
}

func TestNoLimitsOnTheWay(t *testing.T) {
	// Each hole leaves five parts of its cell, four of which are taken away by what is round the hole.
	var cells, holes, rings api.Solid
	for x := 0; x < 39; x += 3 {
		cells = append(cells, block(x, 0, 0, x+3, 3, 3))
		holes = append(holes, block(x+1, 1, 1, x+3, 2, 2))
		if x > 0 {
			rings = append(rings, block(x+1, 0, 0, x+3, 1, 3), block(x+1, 2, 0, x+3, 3, 3), block(x+1, 1, 0, x+3, 2, 1), block(x+1, 1, 2, x+3, 2, 3))
		}
	}
	got, e := solid.Minus(cells, append(holes, rings...))
	want(t, "Minus of holes and rings", len(got), e, 12+5, api.OK)
	v, e := solid.Volume(got)
	want(t, "Volume of the rest", v, e, integer(13*9+16), api.OK)
	got, e = solid.Minus(cells, holes)
	want(t, "Minus of the holes alone", got, e, nil, api.ErrMany)
	// What is left behind the corner has 33 half-spaces, until half of it is taken away.
	most := sure(solid.Normal(append(block(0, -2, -2, 2, 2, 2), top())))
	got, e = solid.Minus(api.Solid{column(30, "1")}, api.Solid{beyond(), most})
	want(t, "Minus of a corner and of a half", got, e, minus(api.Solid{column(30, "1")}, api.Solid{beyond(), most}), api.OK)
}
