package solid_test

import (
	"slices"
	"testing"

	"trunnel/api"
	"trunnel/solid"
	"trunnel/space"
)

// P2.4

func TestPosition(t *testing.T) {
	b, d := block(0, 0, 0, 2, 3, 4), block(2, 0, 0, 3, 1, 1)
	both := api.Solid{b, d}
	var octants api.Solid
	for i := range 8 {
		x, y, z := i&1, i>>1&1, i>>2
		octants = append(octants, block(x-1, y-1, z-1, x, y, z))
	}
	for _, row := range []struct {
		what string
		s    api.Solid
		p    api.Vec
		want int
	}{
		{"a point inside", both, api.Vec{"1", "1", "1"}, 1},
		{"a point outside", both, api.Vec{"3", "2", "1"}, -1},
		{"a point just outside", both, api.Vec{"2000000001/1000000000", "2", "1"}, -1},
		{"a point just inside", both, api.Vec{"1999999999/1000000000", "2", "1"}, 1},
		{"a point of a facet", api.Solid{b}, api.Vec{"2", "1/2", "1/2"}, 0},
		{"a point of a shared facet", both, api.Vec{"2", "1/2", "1/2"}, 1},
		{"a point of the edge of a shared facet", both, api.Vec{"2", "0", "1/2"}, 0},
		{"a corner of a shared facet", both, api.Vec{"2", "0", "0"}, 0},
		{"a point of the plane of a facet", api.Solid{b}, api.Vec{"2", "4", "1/2"}, -1},
		{"a corner", api.Solid{b}, origin(), 0},
		{"a point of an edge", api.Solid{b}, api.Vec{"0", "0", "3/2"}, 0},
		{"any point of nothing", nil, origin(), -1},
		{"the middle of eight boxes", octants, origin(), 1},
		{"the middle of seven boxes", octants[1:], origin(), 0},
		{"the middle of seven other boxes", slices.Delete(slices.Clone(octants), 3, 4), origin(), 0},
		{"a point of an edge of four boxes", octants, api.Vec{"0", "0", "1/2"}, 1},
		{"a point of an edge of three boxes", octants[1:], api.Vec{"0", "0", "-1/2"}, 0},
		{"two boxes that share an edge", api.Solid{octants[0], octants[3]}, api.Vec{"0", "0", "-1/2"}, 0},
		{"two boxes that share a corner", api.Solid{octants[0], octants[7]}, origin(), 0},
		{"a box with a hole that ends at the point", sure(solid.Minus(api.Solid{block(-3, -3, -3, 3, 3, 3)}, api.Solid{simplex("1")})), origin(), 0},
		{"a filled hole", sure(solid.Union(api.Solid{simplex("1")}, api.Solid{block(-3, -3, -3, 3, 3, 3)})), origin(), 1},
		{"the tip of the filled hole", sure(solid.Union(api.Solid{simplex("1")}, api.Solid{block(-3, -3, -3, 3, 3, 3)})), api.Vec{"0", "0", "1"}, 1},
		{"a flat cone that is missing", sure(solid.Minus(api.Solid{block(-3, -3, -3, 3, 3, 3)}, api.Solid{spike()})), origin(), 0},
	} {
		got, e := solid.Position(row.s, row.p)
		want(t, "Position of "+row.what, got, e, row.want, api.OK)
	}
}

// spike returns a slender body with a tip at the origin.
func spike() api.Body {
	return sure(solid.Hull([]api.Vec{origin(), {"1", "0", "0"}, {"1", "1/100", "0"}, {"1", "0", "1/100"}}))
}

func TestPositionOfAnyPoints(t *testing.T) {
	s := newSource(11)
	for range 60 {
		b := s.body()
		parts := sure(solid.Union(api.Solid{sure(solid.Normal(append(slices.Clone(b), half(-1, 0, 0, "9"))))}, nil))
		for range 2 {
			h := s.half()
			if one, other := sure(solid.Cut(parts, h)), sure(solid.Cut(parts, sure(space.Opposite(h)))); len(one)+len(other) <= 64 {
				parts = append(one, other...)
			}
		}
		points := append(corners(b), s.vec(2), s.vec(2), middle(corners(b)))
		for _, part := range parts {
			c := corners(part)
			points = append(points, c[0], c[1], c[2], middle(c[:2]), middle(c[:3]))
		}
		for _, p := range points {
			wanted := -1
			if contains(b, p, true) {
				wanted = 1
			} else if contains(b, p, false) {
				wanted = 0
			}
			got, e := solid.Position(parts, p)
			want(t, "Position", got, e, wanted, api.OK)
		}
	}
}

func TestTouch(t *testing.T) {
	b, d := api.Solid{block(0, 0, 0, 2, 3, 4)}, api.Solid{block(2, 0, 0, 3, 1, 1)}
	halves := api.Solid{block(0, 0, 0, 2, 3, 2), block(0, 0, 2, 2, 3, 4)}
	neighbours := api.Solid{block(2, 0, 1, 3, 1, 3), block(2, 2, -5, 3, 5, 9), block(2, 1, 4, 3, 2, 5)}
	for _, row := range []struct {
		what string
		a, b api.Solid
		h    api.Half
		area api.Vec
	}{
		{"two boxes", b, d, half(1, 0, 0, "2"), api.Vec{"1", "0", "0"}},
		{"two boxes, the other way", d, b, half(-1, 0, 0, "-2"), api.Vec{"-1", "0", "0"}},
		{"two boxes, the wrong way", d, b, half(1, 0, 0, "2"), origin()},
		{"two boxes in another plane", b, d, half(0, 1, 0, "3"), origin()},
		{"two boxes beside the plane", b, d, half(1, 0, 0, "3"), origin()},
		{"a box with itself", b, b, half(1, 0, 0, "2"), origin()},
		{"boxes with a common edge", b, api.Solid{block(2, 3, 0, 3, 4, 4)}, half(1, 0, 0, "2"), origin()},
		{"boxes with a common corner", b, api.Solid{block(2, 3, 4, 3, 4, 5)}, half(1, 0, 0, "2"), origin()},
		{"boxes with a distance in the plane", b, api.Solid{block(2, 5, 0, 3, 6, 4)}, half(1, 0, 0, "2"), origin()},
		{"nothing", b, nil, half(1, 0, 0, "2"), origin()},
		{"with nothing", nil, b, half(1, 0, 0, "2"), origin()},
		{"two and three bodies", halves, neighbours, half(1, 0, 0, "2"), api.Vec{"6", "0", "0"}},
		{"a body that overlaps behind the facet", api.Solid{block(0, 0, 0, 2, 3, 4), block(2, 0, 0, 3, 1, 1)}, api.Solid{block(2, 0, 0, 4, 3, 4)}, half(1, 0, 0, "2"), api.Vec{"12", "0", "0"}},
		{"a slanted plane", api.Solid{simplex("1")}, api.Solid{sure(solid.Normal(append(block(0, 0, 0, 1, 1, 1), half(-1, -1, -1, "-1"))))}, half(1, 1, 1, "1"), api.Vec{"1/2", "1/2", "1/2"}},
	} {
		got, e := solid.Touch(row.a, row.b, row.h)
		want(t, "Touch of "+row.what, got, e, row.area, api.OK)
	}
}

func TestContacts(t *testing.T) {
	b, d := api.Solid{block(0, 0, 0, 2, 3, 4)}, api.Solid{block(2, 0, 0, 3, 1, 1)}
	got, e := solid.Contacts(b, d)
	want(t, "Contacts", got, e, []api.Contact{{Plane: half(1, 0, 0, "2"), Area: api.Vec{"1", "0", "0"}}}, api.OK)
	got, e = solid.Contacts(b, nil)
	want(t, "Contacts with nothing", got, e, nil, api.OK)
	got, e = solid.Contacts(b, b)
	want(t, "Contacts with itself", got, e, nil, api.OK)
	// A frame of four boards round a post, which also touches one in three planes.
	post := api.Solid{block(0, 0, 0, 2, 2, 10)}
	boards := api.Solid{block(-1, 0, 0, 0, 2, 1), block(2, 0, 0, 3, 2, 2), block(-1, 2, 0, 3, 3, 4), block(-1, -1, 0, 3, 0, 9), block(0, 0, -1, 2, 2, 0), block(0, 0, 10, 1, 1, 11)}
	got, e = solid.Contacts(post, boards)
	want(t, "Contacts of a post", got, e, []api.Contact{
		{Plane: half(-1, 0, 0, "0"), Area: api.Vec{"-2", "0", "0"}}, {Plane: half(0, -1, 0, "0"), Area: api.Vec{"0", "-18", "0"}}, {Plane: half(0, 0, -1, "0"), Area: api.Vec{"0", "0", "-4"}},
		{Plane: half(0, 0, 1, "10"), Area: api.Vec{"0", "0", "1"}}, {Plane: half(0, 1, 0, "2"), Area: api.Vec{"0", "8", "0"}}, {Plane: half(1, 0, 0, "2"), Area: api.Vec{"4", "0", "0"}},
	}, api.OK)
	// Planes with the same normal are in the order of D, which is not that of their texts.
	steps := api.Solid{block(0, 0, 0, 1, 1, 10), block(1, 0, 0, 2, 1, 9), block(2, 0, 0, 3, 1, 2)}
	above := api.Solid{block(0, 0, 10, 1, 1, 11), block(1, 0, 9, 2, 1, 11), block(2, 0, 2, 3, 1, 11)}
	got, e = solid.Contacts(steps, above)
	want(t, "Contacts of steps", got, e, []api.Contact{
		{Plane: half(0, 0, 1, "2"), Area: api.Vec{"0", "0", "1"}}, {Plane: half(0, 0, 1, "9"), Area: api.Vec{"0", "0", "1"}}, {Plane: half(0, 0, 1, "10"), Area: api.Vec{"0", "0", "1"}},
		{Plane: half(1, 0, 0, "1"), Area: api.Vec{"1", "0", "0"}}, {Plane: half(1, 0, 0, "2"), Area: api.Vec{"7", "0", "0"}},
	}, api.OK)
}

func TestPlaceLimits(t *testing.T) {
	large := block(0, 0, 0, 1, 1, 1)
	large[3].D, large[4].D = digits(600), digits(600)
	next := slices.Clone(large)
	next[0].D, next[5].D = "-1", "2"
	s, h := api.Solid{large}, half(1, 0, 0, "1")
	v, e := solid.Touch(s, api.Solid{next}, h)
	want(t, "Touch over a large area", v, e, api.Vec{}, api.ErrLarge)
	l, e := solid.Contacts(s, api.Solid{next})
	want(t, "Contacts over a large area", l, e, nil, api.ErrLarge)
	v, e = solid.Section(s, h)
	want(t, "Section with a large area", v, e, api.Vec{}, api.ErrLarge)
	v, e = solid.Section(s, half(0, 1, 0, "1"))
	want(t, "Section with a small area", v, e, api.Vec{"0", digits(600), "0"}, api.OK)
	// The corners on the way have too many digits.
	thin := simplex("1")
	thin[3].N, thin[3].D = [3]int{999, 1000, 1001}, "1/"+digits(600)
	n, e := solid.Position(api.Solid{thin}, api.Vec{"0", "0", "1/" + digits(598)})
	want(t, "Position at a small simplex", n, e, -1, api.OK)
	left, e := solid.Minus(api.Solid{thin}, api.Solid{thin})
	want(t, "Minus of a small simplex", left, e, nil, api.OK)
}

func TestContactsOfAnySolids(t *testing.T) {
	s := newSource(12)
	for range 8 {
		a := s.solid(2)
		b := sure(solid.Minus(api.Solid{block(-3, -3, -3, 3, 3, 3)}, a))
		if s.Intn(2) == 0 {
			b = sure(solid.Cut(b, s.half()))
		}
		var wanted []api.Contact
		seen := map[api.Half]bool{}
		for _, p := range a {
			for _, h := range p {
				if v := touch(a, b, h); v != origin() && !seen[h] {
					seen[h] = true
					wanted = append(wanted, api.Contact{Plane: h, Area: v})
				}
				got, e := solid.Touch(a, b, h)
				want(t, "Touch", got, e, touch(a, b, h), api.OK)
			}
		}
		slices.SortFunc(wanted, func(x, y api.Contact) int {
			if c := slices.Compare(x.Plane.N[:], y.Plane.N[:]); c != 0 {
				return c
			}
			return sure(space.Compare(x.Plane.D, y.Plane.D))
		})
		got, e := solid.Contacts(a, b)
		want(t, "Contacts", got, e, wanted, api.OK)
	}
}

func TestSection(t *testing.T) {
	b, d := block(0, 0, 0, 2, 3, 4), block(2, 0, 0, 3, 1, 1)
	for _, row := range []struct {
		what string
		s    api.Solid
		h    api.Half
		area api.Vec
	}{
		{"a slanted plane", api.Solid{b}, half(1, 1, 0, "3"), api.Vec{"8", "8", "0"}},
		{"a facet", api.Solid{b}, half(1, 0, 0, "2"), api.Vec{"12", "0", "0"}},
		{"a facet from outside", api.Solid{b}, half(-1, 0, 0, "-2"), origin()},
		{"a shared facet", api.Solid{b, d}, half(1, 0, 0, "2"), api.Vec{"12", "0", "0"}},
		{"a shared facet, the other way", api.Solid{b, d}, half(-1, 0, 0, "-2"), api.Vec{"-1", "0", "0"}},
		{"two bodies", api.Solid{b, d}, half(0, 1, 0, "1/2"), api.Vec{"0", "9", "0"}},
		{"an edge", api.Solid{b}, half(1, 1, 0, "5"), origin()},
		{"an edge from outside", api.Solid{b}, half(-1, -1, 0, "-5"), origin()},
		{"a corner", api.Solid{b}, half(1, 1, 1, "9"), origin()},
		{"a plane beyond", api.Solid{b}, half(1, 0, 0, "3"), origin()},
		{"a plane before", api.Solid{b}, half(1, 0, 0, "-1"), origin()},
		{"nothing", nil, half(1, 0, 0, "-1"), origin()},
		{"a simplex", api.Solid{simplex("1")}, half(1, 1, 1, "1/2"), api.Vec{"1/8", "1/8", "1/8"}},
	} {
		got, e := solid.Section(row.s, row.h)
		want(t, "Section in "+row.what, got, e, row.area, api.OK)
	}
	s := newSource(13)
	for range 60 {
		all, h := s.solid(2), s.half()
		sum := origin()
		for _, b := range all {
			if _, ok := common(b, []api.Half{h}); ok {
				sum = sure(space.AddVec(sum, facetArea(b, h)))
			}
		}
		got, e := solid.Section(all, h)
		want(t, "Section", got, e, sum, api.OK)
	}
}

func TestExtent(t *testing.T) {
	b, d := block(0, 0, 0, 2, 3, 4), block(2, 0, 0, 3, 1, 1)
	for _, row := range []struct {
		what string
		s    api.Solid
		d    api.Vec
		want [2]api.Rat
		e    api.Errno
	}{
		{"a box", api.Solid{b}, api.Vec{"1", "-1", "0"}, [2]api.Rat{"-3", "2"}, api.OK},
		{"two boxes", api.Solid{b, d}, api.Vec{"1", "0", "0"}, [2]api.Rat{"0", "3"}, api.OK},
		{"two boxes in another order", api.Solid{d, b}, api.Vec{"-1/2", "0", "0"}, [2]api.Rat{"-3/2", "0"}, api.OK},
		{"a box far away", api.Solid{block(10, 10, 10, 11, 11, 11)}, api.Vec{"1", "1", "1"}, [2]api.Rat{"30", "33"}, api.OK},
		{"a box on the other side", api.Solid{block(-11, -11, -11, -10, -10, -10)}, api.Vec{"1", "1", "1"}, [2]api.Rat{"-33", "-30"}, api.OK},
		{"a box along 0", api.Solid{b}, origin(), [2]api.Rat{"0", "0"}, api.OK},
		{"nothing", nil, api.Vec{"1", "0", "0"}, [2]api.Rat{}, api.ErrEmpty},
		{"a long vector", api.Solid{b}, api.Vec{digits(600), "0", "0"}, [2]api.Rat{}, api.ErrLarge},
	} {
		low, high, e := solid.Extent(row.s, row.d)
		want(t, "Extent of "+row.what, [2]api.Rat{low, high}, e, row.want, row.e)
	}
}
