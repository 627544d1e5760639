package solid_test

import (
	"slices"
	"testing"

	"trunnel/api"
	"trunnel/solid"
	"trunnel/space"
)

// P2.1

func TestNormal(t *testing.T) {
	b := block(0, 0, 0, 2, 3, 4)
	for _, row := range []struct {
		what string
		l    []api.Half
		b    api.Body
		e    api.Errno
	}{
		{"a box", b, b, api.OK},
		{"a box in another order", []api.Half{b[5], b[4], b[3], b[2], b[1], b[0]}, b, api.OK},
		{"each half-space twice", join(b, b), b, api.OK},
		{"several ones with the same normal", join([]api.Half{half(1, 0, 0, "5"), half(0, -1, 0, "1/2")}, b, []api.Half{half(1, 0, 0, "3"), half(0, 0, 1, "9/2")}), b, api.OK},
		{"a lesser one with the same normal", join(b, []api.Half{half(1, 0, 0, "1")}), block(0, 0, 0, 1, 3, 4), api.OK},
		{"a plane beyond", join(b, []api.Half{half(1, 1, 0, "6")}), b, api.OK},
		{"a plane along an edge", join(b, []api.Half{half(1, 1, 0, "5")}), b, api.OK},
		{"a plane at a corner", join(b, []api.Half{half(1, 1, 1, "9")}), b, api.OK},
		{"a plane through edges", join(b, []api.Half{half(3, 2, 0, "6")}), api.Body{b[0], b[1], b[2], b[3], half(3, 2, 0, "6")}, api.OK},
		{"a simplex with superfluous ones", join(b, simplex("1")), simplex("1"), api.OK},
		{"nothing", nil, nil, api.ErrOpen},
		{"one half-space", b[:1], nil, api.ErrOpen},
		{"all but one", join(b[:3], b[4:]), nil, api.ErrOpen},
		{"a prism without ends", []api.Half{b[0], b[1], half(1, 1, 0, "1"), half(1, 2, 0, "3")}, nil, api.ErrOpen},
		{"a slab", []api.Half{b[0], b[5]}, nil, api.ErrOpen},
		{"three faces of a corner", []api.Half{b[0], b[1], b[2], half(1, 1, -5, "1"), half(-1, -1, -1, "0")}, nil, api.ErrOpen},
		{"a simplex", []api.Half{half(1, 1, 1, "1"), b[0], b[1], b[2]}, simplex("1"), api.OK},
		{"a plane that leaves a facet", join(b, []api.Half{half(1, 0, 0, "0")}), nil, api.ErrEmpty},
		{"a plane that leaves an edge", join(b, []api.Half{half(1, 1, 0, "0")}), nil, api.ErrEmpty},
		{"a plane that leaves a corner", join(b, []api.Half{half(1, 1, 1, "0")}), nil, api.ErrEmpty},
		{"a plane that leaves nothing", join(b, []api.Half{half(1, 0, 0, "-1")}), nil, api.ErrEmpty},
		{"a simplex of one point", simplex("0"), nil, api.ErrEmpty},
		{"a simplex of no point", simplex("-1"), nil, api.ErrEmpty},
		{"open and empty", []api.Half{half(1, 0, 0, "0"), half(-1, 0, 0, "-1"), b[1], b[2], b[3]}, nil, api.ErrOpen},
		{"large numbers", []api.Half{half(-1, 0, 0, digits(600)), half(0, -1, 0, "0"), half(0, 0, -1, "0"), half(999999999, 999999998, 999999997, "1/"+digits(600))},
			api.Body{half(-1, 0, 0, digits(600)), half(0, -1, 0, "0"), half(0, 0, -1, "0"), half(999999999, 999999998, 999999997, "1/"+digits(600))}, api.OK},
	} {
		got, e := solid.Normal(row.l)
		want(t, "Normal of "+row.what, got, e, row.b, row.e)
	}
}

func TestNormalErrors(t *testing.T) {
	b := block(0, 0, 0, 2, 3, 4)
	bad := half(0, 0, 0, "x")
	for _, row := range []struct {
		what string
		l    []api.Half
		e    api.Errno
	}{
		{"257 half-spaces", slices.Repeat([]api.Half{bad}, 257), api.ErrMany},
		{"256 half-spaces with an error", slices.Repeat([]api.Half{bad}, 256), api.ErrZero},
		{"256 equal ones", slices.Repeat(b[:1], 256), api.ErrOpen},
		{"two errors", []api.Half{b[0], half(2, 0, 0, "0"), bad}, api.ErrForm},
		{"a great normal", []api.Half{half(1000000000, 1, 0, "0")}, api.ErrRange},
		{"a great D", []api.Half{half(1, 0, 0, digits(601)), bad}, api.ErrLarge},
		{"a D that is no number", join(b, []api.Half{half(1, 0, 0, "")}), api.ErrForm},
		{"a body with 33 half-spaces", column(31, "1"), api.ErrMany},
		{"an open body with 40 half-spaces", slices.DeleteFunc(column(40, "1"), func(h api.Half) bool { return h.N[2] > 0 }), api.ErrOpen},
	} {
		got, e := solid.Normal(row.l)
		want(t, "Normal of "+row.what, got, e, nil, row.e)
	}
	got, e := solid.Normal(join(column(30, "1"), column(200, "2")))
	want(t, "Normal of 32 half-spaces in others", got, e, column(30, "1"), api.OK)
	got, e = solid.Normal(slices.Concat(slices.Repeat(b[:5], 51), b[5:]))
	want(t, "Normal of 256 half-spaces", got, e, b, api.OK)
}

func TestNormalOfAnyLists(t *testing.T) {
	s := newSource(1)
	for range 400 {
		l := make([]api.Half, 3+s.Intn(8))
		for i := range l {
			l[i] = s.half()
		}
		wanted, wantedErr := bodyOf(l)
		got, e := solid.Normal(l)
		want(t, "Normal", got, e, wanted, wantedErr)
		if e == api.OK {
			wantError(t, "CheckBody of Normal", solid.CheckBody(got), api.OK)
		}
	}
}

func TestCheckBody(t *testing.T) {
	b := block(0, 0, 0, 2, 3, 4)
	for _, row := range []struct {
		what string
		b    api.Body
		e    api.Errno
	}{
		{"a box", b, api.OK},
		{"a simplex", simplex("1/3"), api.OK},
		{"32 half-spaces", column(30, "1"), api.OK},
		{"33 half-spaces", column(31, "1"), api.ErrMany},
		{"33 half-spaces with an error", slices.Repeat(api.Body{half(0, 0, 0, "x")}, 33), api.ErrMany},
		{"a normal 0", api.Body{b[1], half(0, 0, 0, "x"), half(2, 0, 0, "0")}, api.ErrZero},
		{"a great normal", api.Body{b[1], half(0, 0, -1000000000, "x"), half(0, 0, 0, "0")}, api.ErrRange},
		{"a normal with a divisor", api.Body{b[1], half(2, 0, -4, "x"), half(0, 0, 0, "0")}, api.ErrForm},
		{"a D that is no number", api.Body{b[1], half(2, 0, -3, "1/1"), half(0, 0, 0, "0")}, api.ErrForm},
		{"a great D", api.Body{b[1], half(2, 0, -3, digits(601)), half(0, 0, 0, "0")}, api.ErrLarge},
		{"a wrong order", api.Body{b[1], b[0], b[2], b[3], b[4], b[5]}, api.ErrOrder},
		{"a wrong order at the end", api.Body{b[0], b[1], b[2], b[3], b[5], b[4]}, api.ErrOrder},
		{"a wrong order of the second numbers", api.Body{half(-1, 1, 0, "0"), half(-1, 0, 5, "0")}, api.ErrOrder},
		{"a wrong order of the third numbers", api.Body{half(-1, 1, 1, "0"), half(-1, 1, 0, "0")}, api.ErrOrder},
		{"a normal twice", api.Body{b[0], b[1], b[2], b[3], b[4], b[5], half(1, 0, 0, "3")}, api.ErrOrder},
		{"an open list in a wrong order", api.Body{b[1], b[0]}, api.ErrOrder},
		{"nothing", nil, api.ErrOpen},
		{"one half-space", b[:1], api.ErrOpen},
		{"a box without an end", b[:5], api.ErrOpen},
		{"an open list that is empty", api.Body{half(-1, 0, 0, "-1"), b[1], b[2], b[3], half(1, 0, 0, "0")}, api.ErrOpen},
		{"a box without a height", block(0, 0, 0, 2, 3, 0), api.ErrEmpty},
		{"a box with a negative height", block(0, 0, 0, 2, 3, -1), api.ErrEmpty},
		{"a point", simplex("0"), api.ErrEmpty},
		{"an empty list with a superfluous one", join(block(0, 0, 0, 2, 3, -1), []api.Half{half(1, 1, 0, "9")}), api.ErrEmpty},
		{"a plane beyond", join(b, []api.Half{half(1, 1, 0, "6")}), api.ErrForm},
		{"a plane along an edge", join(b, []api.Half{half(1, 1, 0, "5")}), api.ErrForm},
		{"a plane at a corner", join(b, []api.Half{half(1, 1, 1, "9")}), api.ErrForm},
		{"a plane that cuts off a corner", join(b, []api.Half{half(1, 1, 1, "17/2")}), api.OK},
		{"a plane that makes another one superfluous", join(b, []api.Half{half(1, 1, 0, "2")}), api.ErrForm},
	} {
		wantError(t, "CheckBody of "+row.what, solid.CheckBody(row.b), row.e)
	}
}

func TestCheckSolid(t *testing.T) {
	b := block(0, 0, 0, 2, 3, 4)
	bad := api.Body{half(0, 0, 0, "0")}
	var row api.Solid
	for i := range 65 {
		row = append(row, block(i, 0, 0, i+1, 1, 1))
	}
	for _, row := range []struct {
		what string
		s    api.Solid
		e    api.Errno
	}{
		{"nothing", nil, api.OK},
		{"a box", api.Solid{b}, api.OK},
		{"64 bodies", row[:64], api.OK},
		{"65 bodies", row, api.ErrMany},
		{"65 bodies with errors", slices.Repeat(api.Solid{bad}, 65), api.ErrMany},
		{"64 bodies with errors", slices.Repeat(api.Solid{bad}, 64), api.ErrZero},
		{"two errors", api.Solid{b, b[:5], bad}, api.ErrOpen},
		{"an error behind a clash", api.Solid{b, b, b[:5]}, api.ErrOpen},
		{"a body twice", api.Solid{b, b}, api.ErrClash},
		{"a body in another one", api.Solid{block(0, 0, 0, 9, 9, 9), block(1, 1, 1, 2, 2, 2)}, api.ErrClash},
		{"a body round another one", api.Solid{block(1, 1, 1, 2, 2, 2), block(0, 0, 0, 9, 9, 9)}, api.ErrClash},
		{"bodies that overlap", api.Solid{b, block(1, 1, 1, 3, 4, 5)}, api.ErrClash},
		{"bodies that cross", api.Solid{block(0, 0, 0, 9, 1, 1), block(4, -4, 0, 5, 5, 1)}, api.ErrClash},
		{"a clash of the last ones", api.Solid{row[0], row[2], b, block(5, 0, 0, 7, 1, 1), block(6, 0, 0, 8, 1, 1)}, api.ErrClash},
		{"bodies that share a facet", api.Solid{b, block(2, 0, 0, 3, 1, 1)}, api.OK},
		{"bodies that share an edge", api.Solid{b, block(2, 3, 0, 3, 4, 1)}, api.OK},
		{"bodies that share a corner", api.Solid{b, block(2, 3, 4, 3, 4, 5)}, api.OK},
		{"bodies whose edges cross", api.Solid{leaning(), other("0")}, api.OK},
		{"bodies whose edges pass", api.Solid{leaning(), other("1/2")}, api.OK},
		{"bodies whose edges clash", api.Solid{leaning(), other("-1/2")}, api.ErrClash},
	} {
		wantError(t, "CheckSolid of "+row.what, solid.CheckSolid(row.s), row.e)
	}
}

// leaning returns a wedge whose upper edge lies along the axis x; other one whose lower edge crosses it at a height.
func leaning() api.Body {
	return api.Body{half(-1, 0, 0, "3"), half(0, -1, 1, "0"), half(0, 0, -1, "3"), half(0, 1, 1, "0"), half(1, 0, 0, "3")}
}

func other(height api.Rat) api.Body {
	low := sure(space.Sub("0", height))
	return api.Body{half(-1, 0, -1, low), half(0, -1, 0, "3"), half(0, 0, 1, "3"), half(0, 1, 0, "3"), half(1, 0, -1, low)}
}

func TestBox(t *testing.T) {
	got, e := solid.Box(plain(origin()), api.Vec{"2", "3", "4"})
	want(t, "Box", got, e, block(0, 0, 0, 2, 3, 4), api.OK)
	got, e = solid.Box(plain(api.Vec{"1", "-1/2", "1/3"}), api.Vec{"1/2", "1/2", "2/3"})
	want(t, "Box", got, e, api.Body{half(-1, 0, 0, "-1"), half(0, -1, 0, "1/2"), half(0, 0, -1, "-1/3"), half(0, 0, 1, "1"), half(0, 1, 0, "0"), half(1, 0, 0, "3/2")}, api.OK)
	stretched := api.Frame{Origin: api.Vec{"1", "0", "0"}, X: api.Vec{"3", "4", "0"}, Y: api.Vec{"-4", "3", "0"}, Z: api.Vec{"0", "0", "5"}}
	got, e = solid.Box(stretched, api.Vec{"1", "2", "3"})
	want(t, "Box in a stretched frame", got, e, api.Body{half(-4, 3, 0, "46"), half(-3, -4, 0, "-3"), half(0, 0, -1, "0"), half(0, 0, 1, "15"), half(3, 4, 0, "28"), half(4, -3, 0, "4")}, api.OK)
	s := newSource(2)
	for range 100 {
		f, size := s.frame(), api.Vec{"1/2", "3", integer(1 + s.Intn(5))}
		b := must[api.Body](t)(solid.Box(f, size))
		wantError(t, "CheckBody of Box", solid.CheckBody(b), api.OK)
		var wanted []api.Vec
		for i := range 8 {
			p := origin()
			for k := range p {
				if i>>k&1 == 1 {
					p[k] = size[k]
				}
			}
			wanted = append(wanted, sure(space.Place(f, p)))
		}
		slices.SortFunc(wanted, comparePoints)
		points, e := solid.Corners(b)
		want(t, "Corners of Box", points, e, wanted, api.OK)
	}
}

func TestBoxErrors(t *testing.T) {
	f := plain(origin())
	bad := f
	bad.X = api.Vec{"1", "1", "0"}
	great := api.Frame{Origin: origin(), X: api.Vec{"999999999", "1000000000", "0"}, Y: api.Vec{"-1000000000", "999999999", "0"}, Z: api.Vec{"0", "0", "1"}}
	for _, row := range []struct {
		what string
		f    api.Frame
		size api.Vec
		e    api.Errno
	}{
		{"a skew frame", bad, api.Vec{"x", "-1", "1"}, api.ErrFrame},
		{"no frame", api.Frame{}, api.Vec{"1", "1", "1"}, api.ErrForm},
		{"a size that is no number", f, api.Vec{"0", "1", "x"}, api.ErrForm},
		{"a large size", f, api.Vec{"0", "1", digits(601)}, api.ErrLarge},
		{"the size 0", f, api.Vec{"1", "1", "0"}, api.ErrRange},
		{"a negative size", great, api.Vec{"-1", "1", "1"}, api.ErrRange},
		{"a great normal", great, api.Vec{"1", "1", "1"}, api.ErrLarge},
		{"a far corner", plain(api.Vec{digits(600), "0", "0"}), api.Vec{digits(600), "1", "1"}, api.ErrLarge},
	} {
		got, e := solid.Box(row.f, row.size)
		want(t, "Box with "+row.what, got, e, nil, row.e)
	}
}

func TestHull(t *testing.T) {
	for _, row := range []struct {
		what   string
		points []api.Vec
		b      api.Body
		e      api.Errno
	}{
		{"a simplex", []api.Vec{origin(), {"1", "0", "0"}, {"0", "1", "0"}, {"0", "0", "1"}}, simplex("1"), api.OK},
		{"points in it", []api.Vec{{"1/4", "1/4", "1/4"}, origin(), {"1", "0", "0"}, {"0", "1", "0"}, {"1/2", "1/2", "0"}, {"0", "0", "1"}, {"0", "0", "1/3"}, {"0", "1", "0"}}, simplex("1"), api.OK},
		{"a middle among the points", []api.Vec{{"1/2", "1/2", "1/2"}, origin(), {"1", "0", "0"}, {"0", "1", "0"}, {"0", "0", "1"}, {"1", "1", "0"}, {"1", "0", "1"}, {"0", "1", "1"}, {"1", "1", "1"}}, block(0, 0, 0, 1, 1, 1), api.OK},
		{"64 points", slices.Concat(slices.Repeat([]api.Vec{{"0", "1", "0"}}, 61), []api.Vec{{"0", "0", "1"}, {"1", "0", "0"}, origin()}), simplex("1"), api.OK},
		{"65 points", slices.Repeat([]api.Vec{{"x", "0", "0"}}, 65), nil, api.ErrMany},
		{"points with errors", []api.Vec{origin(), {"0", "2/4", "x"}, {"0", digits(601), "0"}}, nil, api.ErrForm},
		{"a large point", []api.Vec{origin(), {"0", digits(601), "x"}, {"x", "0", "0"}}, nil, api.ErrLarge},
		{"no points", nil, nil, api.ErrEmpty},
		{"one point", []api.Vec{origin()}, nil, api.ErrEmpty},
		{"points on a line", []api.Vec{origin(), {"1", "2", "3"}, {"2", "4", "6"}, {"-1/2", "-1", "-3/2"}}, nil, api.ErrEmpty},
		{"points in a plane", []api.Vec{{"1", "1", "1"}, {"3", "0", "0"}, {"0", "3", "0"}, {"0", "0", "3"}, {"-3", "4", "2"}}, nil, api.ErrEmpty},
		{"points nearly in a plane", []api.Vec{origin(), {"1", "0", "0"}, {"0", "1", "0"}, {"1", "1", "1/1000000000"}}, nil, api.ErrLarge},
		{"a great D", []api.Vec{{digits(600), "0", "0"}, {digits(600), "1", "0"}, {digits(600), "0", "1"}, {"-" + digits(600), "0", "0"}}, nil, api.ErrLarge},
	} {
		got, e := solid.Hull(row.points)
		want(t, "Hull of "+row.what, got, e, row.b, row.e)
	}
}

// bowl returns points on a paraboloid, no four of which lie in a plane that leaves all others on one side, as far as
// its hull has more than 32 facets.
func bowl(n int, height api.Rat) []api.Vec {
	s := newSource(3)
	var points []api.Vec
	for range n {
		x, y := s.Intn(199)-99, s.Intn(199)-99
		points = append(points, api.Vec{integer(x), integer(y), sure(space.Mul(height, integer(x*x+y*y)))})
	}
	return points
}

func TestHullLimits(t *testing.T) {
	got, e := solid.Hull(bowl(40, "1"))
	want(t, "Hull with many facets", got, e, nil, api.ErrMany)
	// A great normal comes ahead of the number of facets, and this ahead of a large D.
	got, e = solid.Hull(bowl(40, "1/999999937"))
	want(t, "Hull with many facets and great normals", got, e, nil, api.ErrLarge)
	far := bowl(40, "1")
	for i := range far {
		far[i][2] = sure(space.Add(far[i][2], "1"+api.Rat(slices.Repeat([]byte("0"), 598))+"1/7"))
	}
	got, e = solid.Hull(far)
	want(t, "Hull with many facets far away", got, e, nil, api.ErrMany)
	got, e = solid.Hull(far[:12])
	want(t, "Hull far away", got, e, nil, api.ErrLarge)
}

func TestHullOfAnyPoints(t *testing.T) {
	s := newSource(4)
	for range 200 {
		points := make([]api.Vec, 3+s.Intn(9))
		for i := range points {
			points[i] = s.vec(2)
		}
		wanted := hull(points)
		wantedErr := api.OK
		if len(wanted) < 4 {
			wanted, wantedErr = nil, api.ErrEmpty
		}
		got, e := solid.Hull(points)
		want(t, "Hull", got, e, wanted, wantedErr)
	}
}

// hull returns the half-spaces that contain all points, and have three of them in their planes.
func hull(points []api.Vec) api.Body {
	var b api.Body
	for i := range points {
		for j := range points {
			for k := range points {
				h, e := space.Through(points[i], points[j], points[k])
				outside := func(p api.Vec) bool { return sure(space.Side(h, p)) > 0 }
				if e == api.OK && !slices.Contains(b, h) && !slices.ContainsFunc(points, outside) {
					b = append(b, h)
				}
			}
		}
	}
	slices.SortFunc(b, func(h, g api.Half) int { return slices.Compare(h.N[:], g.N[:]) })
	return b
}
