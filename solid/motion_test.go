package solid_test

import (
	"slices"
	"testing"

	"trunnel/api"
	"trunnel/solid"
	"trunnel/space"
)

// P2.5

func TestMove(t *testing.T) {
	b, d := block(0, 0, 0, 2, 3, 4), block(2, 0, 0, 3, 1, 1)
	quarter := api.Frame{Origin: origin(), X: api.Vec{"0", "1", "0"}, Y: api.Vec{"-1", "0", "0"}, Z: api.Vec{"0", "0", "1"}}
	stretched := api.Frame{Origin: api.Vec{"1", "0", "0"}, X: api.Vec{"2", "0", "0"}, Y: api.Vec{"0", "1/3", "0"}, Z: api.Vec{"0", "0", "1"}}
	for _, row := range []struct {
		what string
		s    api.Solid
		f    api.Frame
		want api.Solid
	}{
		{"nothing", nil, quarter, nil},
		{"a box", api.Solid{b}, plain(api.Vec{"1", "1", "1"}), api.Solid{block(1, 1, 1, 3, 4, 5)}},
		{"two boxes", api.Solid{d, b}, plain(api.Vec{"-1", "0", "2"}), api.Solid{block(1, 0, 2, 2, 1, 3), block(-1, 0, 2, 1, 3, 6)}},
		{"a box by a quarter turn", api.Solid{b}, quarter, api.Solid{block(-3, 0, 0, 0, 2, 4)}},
		{"a box that is stretched", api.Solid{b}, stretched, api.Solid{block(1, 0, 0, 5, 1, 4)}},
		{"a simplex that is stretched", api.Solid{simplex("1")}, stretched, api.Solid{{half(-1, 0, 0, "-1"), half(0, -1, 0, "0"), half(0, 0, -1, "0"), half(1, 6, 2, "3")}}},
	} {
		got, e := solid.Move(row.s, row.f)
		want(t, "Move of "+row.what, got, e, row.want, api.OK)
	}
	great := plain(origin())
	great.Y = api.Vec{"0", "1000000000", "0"}
	got, e := solid.Move(api.Solid{d, simplex("1")}, great)
	want(t, "Move with a great normal", got, e, nil, api.ErrLarge)
	got, e = solid.Move(api.Solid{block(0, 0, 0, 1, 1, 1), block(1, 0, 0, 2, 1, 1)}, plain(api.Vec{digits(600), "1/3", "0"}))
	want(t, "Move far away", len(got), e, 2, api.OK)
	got, e = solid.Move(api.Solid{slanted()}, plain(api.Vec{digits(600), "1/3", "0"}))
	want(t, "Move too far away", got, e, nil, api.ErrLarge)
}

// slanted returns a simplex with a plane that is not the same for all axes.
func slanted() api.Body {
	b := simplex("1")
	b[3].N = [3]int{2, 3, 5}
	return b
}

func TestMoveOfAnySolids(t *testing.T) {
	s := newSource(14)
	for range 100 {
		all, f := s.solid(2), s.frame()
		moved := must[api.Solid](t)(solid.Move(all, f))
		wantError(t, "CheckSolid of Move", solid.CheckSolid(moved), api.OK)
		for i, b := range all {
			var wanted []api.Vec
			for _, p := range corners(b) {
				wanted = append(wanted, sure(space.Place(f, p)))
			}
			slices.SortFunc(wanted, comparePoints)
			got, e := solid.Corners(moved[i])
			want(t, "Corners of Move", got, e, wanted, api.OK)
		}
	}
}

func TestSweep(t *testing.T) {
	b := block(0, 0, 0, 2, 3, 4)
	for _, row := range []struct {
		what string
		b    api.Body
		v    api.Vec
		want api.Body
	}{
		{"a box along an axis", b, api.Vec{"0", "0", "1"}, block(0, 0, 0, 2, 3, 5)},
		{"a box the other way", b, api.Vec{"-3", "0", "0"}, block(-3, 0, 0, 2, 3, 4)},
		{"a box along nothing", b, origin(), b},
		{"a box in a plane", b, api.Vec{"1", "2", "0"}, api.Body{half(-2, 1, 0, "3"), half(-1, 0, 0, "0"), half(0, -1, 0, "0"), half(0, 0, -1, "0"), half(0, 0, 1, "4"), half(0, 1, 0, "5"), half(1, 0, 0, "3"), half(2, -1, 0, "4")}},
		{"a simplex along a facet", simplex("1"), api.Vec{"1/2", "0", "0"}, api.Body{half(-1, 0, 0, "0"), half(0, -1, 0, "0"), half(0, 0, -1, "0"), half(0, 1, 1, "1"), half(1, 1, 1, "3/2")}},
		{"a simplex in its last facet", simplex("1"), api.Vec{"1", "-1", "0"}, api.Body{half(-1, -1, 0, "0"), half(-1, 0, 0, "0"), half(0, -1, 0, "1"), half(0, 0, -1, "0"), half(1, 1, 1, "1")}},
	} {
		got, e := solid.Sweep(row.b, row.v)
		want(t, "Sweep of "+row.what, got, e, row.want, api.OK)
	}
	s := newSource(15)
	for range 60 {
		b, v := s.body(), s.vec(2)
		if s.Intn(3) == 0 {
			v[s.Intn(3)] = "0"
		}
		points := corners(b)
		for _, p := range corners(b) {
			points = append(points, sure(space.AddVec(p, v)))
		}
		got, e := solid.Sweep(b, v)
		want(t, "Sweep", got, e, hull(points), api.OK)
	}
}

func TestSweepLimits(t *testing.T) {
	small := api.Body{half(-1, 0, 0, "0"), half(0, -1, 0, "0"), half(0, 0, -1, "0"), half(31623, 31627, 31643, "1")}
	for _, row := range []struct {
		what string
		b    api.Body
		v    api.Vec
		e    api.Errno
	}{
		{"a great normal", small, api.Vec{"100003/100019", "-1", "3"}, api.ErrLarge},
		{"too many half-spaces", column(30, "1"), api.Vec{"1", "0", "1"}, api.ErrMany},
		{"32 half-spaces", column(30, "1"), api.Vec{"0", "0", "1"}, api.OK},
		{"too many half-spaces and a great normal", column(30, "1"), api.Vec{"1/999999937", "0", "1"}, api.ErrLarge},
		{"too many half-spaces and a large D", column(30, "1"), api.Vec{digits(600), "0", digits(600)}, api.ErrMany},
		{"a large D", slanted(), api.Vec{digits(600), "0", "0"}, api.ErrLarge},
	} {
		got, e := solid.Sweep(row.b, row.v)
		wantError(t, "Sweep with "+row.what, e, row.e)
		if e != api.OK && got != nil {
			t.Errorf("Sweep with %s: got a result beside an error", row.what)
		}
	}
}

// wantSeparated reports a half-space that does not contain a, or whose opposite does not contain b.
func wantSeparated(t *testing.T, a, b api.Body) {
	t.Helper()
	h, e := solid.Separate(a, b)
	wantError(t, "Separate", e, api.OK)
	wantError(t, "CheckHalf of Separate", space.CheckHalf(h), api.OK)
	for _, p := range corners(a) {
		if side, e := space.Side(h, p); e != api.OK || side > 0 {
			t.Errorf("Separate of %v and %v: %v does not contain the first one", a, b, h)
		}
	}
	for _, p := range corners(b) {
		if side, e := space.Side(h, p); e != api.OK || side < 0 {
			t.Errorf("Separate of %v and %v: the opposite of %v does not contain the second one", a, b, h)
		}
	}
}

func TestSeparate(t *testing.T) {
	b := block(0, 0, 0, 2, 3, 4)
	wantSeparated(t, b, block(2, 0, 0, 3, 1, 1))
	wantSeparated(t, block(2, 0, 0, 3, 1, 1), b)
	wantSeparated(t, b, block(2, 3, 4, 5, 6, 7))
	wantSeparated(t, b, block(9, -9, 9, 10, 10, 10))
	// A plane of the second one alone, and of the first one alone.
	beyond := sure(solid.Hull([]api.Vec{{"5", "0", "0"}, {"0", "8", "0"}, {"5", "8", "5"}, {"5", "8", "-5"}}))
	wantSeparated(t, b, beyond)
	wantSeparated(t, beyond, b)
	// No plane of a facet, but one along two edges.
	for _, height := range []api.Rat{"0", "1/2", "2"} {
		wantSeparated(t, leaning(), other(height))
		wantSeparated(t, other(height), leaning())
		wantSeparated(t, skew(leaning()), skew(other(height)))
		wantSeparated(t, skew(other(height)), skew(leaning()))
	}
	for _, pair := range [][2]api.Body{{b, b}, {b, block(1, 1, 1, 3, 4, 5)}, {b, block(1, 1, 1, 2, 2, 2)}, {block(-1, -1, -1, 9, 9, 9), b}, {leaning(), other("-1/1000000")}} {
		h, e := solid.Separate(pair[0], pair[1])
		want(t, "Separate of bodies that overlap", h, e, api.Half{}, api.ErrClash)
	}
}

// skew returns a body that is turned.
func skew(b api.Body) api.Body {
	f := sure(space.Turn([4]api.Rat{"3", "1", "2", "5"}))
	return sure(solid.Move(api.Solid{b}, f))[0]
}

func TestSeparateOfAnyBodies(t *testing.T) {
	s := newSource(16)
	for range 300 {
		a := s.body()
		b := sure(solid.Move(api.Solid{s.body()}, plain(s.vec(4))))[0]
		if _, clash := common(a, b); clash {
			h, e := solid.Separate(a, b)
			want(t, "Separate of bodies that overlap", h, e, api.Half{}, api.ErrClash)
		} else {
			wantSeparated(t, a, b)
		}
	}
}

func TestSeparateLimits(t *testing.T) {
	// The only plane between these is that of both edges, which cross; it has no form.
	a, b := leaning(), other("0")
	a[1].N, a[3].N = [3]int{31, -999999937, 999999929}, [3]int{17, 999999893, 999999883}
	b[0].N, b[4].N = [3]int{-999999797, 29, -999999761}, [3]int{999999757, 13, -999999751}
	for _, x := range []api.Body{a, b} {
		slices.SortFunc(x, func(h, g api.Half) int { return slices.Compare(h.N[:], g.N[:]) })
	}
	wantError(t, "CheckSolid", solid.CheckSolid(api.Solid{a, b}), api.OK)
	h, e := solid.Separate(a, b)
	want(t, "Separate with a great normal", h, e, api.Half{}, api.ErrLarge)
}
