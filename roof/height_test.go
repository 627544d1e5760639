package roof_test

import (
	"math/big"
	"slices"
	"testing"

	"trunnel/api"
	"trunnel/roof"
)

// P4.2

func TestHeight(t *testing.T) {
	other := rectangle("5", "-4", "9", "4", "2", "1", "1", "1", "1")
	inner := rectangle("3", "2", "5", "4", "3", "1", "1", "1", "1") // as high as the house in its middle
	for _, row := range []struct {
		what       string
		roof       []api.Wing
		x, y       api.Rat
		h          api.Rat
		wing, side int
		e          api.Errno
	}{
		{"the ridge", []api.Wing{house()}, "4", "3", "5", 0, 0, api.OK}, {"side 3", []api.Wing{house()}, "1", "3", "3", 0, 3, api.OK}, {"side 1", []api.Wing{house()}, "15/2", "3", "5/2", 0, 1, api.OK}, {"side 2", []api.Wing{house()}, "4", "11/2", "5/2", 0, 2, api.OK},
		{"a corner", []api.Wing{house()}, "8", "6", "2", 0, 1, api.OK}, {"the last corner", []api.Wing{house()}, "0", "6", "2", 0, 2, api.OK}, {"an eave", []api.Wing{house()}, "0", "3", "2", 0, 3, api.OK},
		{"a gable", []api.Wing{gabled()}, "8", "2", "4", 0, 0, api.OK}, {"the end of a ridge", []api.Wing{gabled()}, "8", "3", "5", 0, 0, api.OK}, {"behind the ridge", []api.Wing{gabled()}, "8", "4", "4", 0, 2, api.OK},
		{"beyond a corner", []api.Wing{house()}, "9", "6", "", 0, 0, api.ErrNone}, {"beyond an eave", []api.Wing{house()}, "4", "-1/1000", "", 0, 0, api.ErrNone}, {"beyond a gable", []api.Wing{gabled()}, "-1/1000", "3", "", 0, 0, api.ErrNone},
		{"the second wing", []api.Wing{house(), other}, "7", "1", "4", 1, 1, api.OK}, {"the first wing", []api.Wing{house(), other}, "6", "3", "4", 0, 1, api.OK}, {"the second wing alone", []api.Wing{house(), other}, "7", "-1", "4", 1, 1, api.OK}, {"between both", []api.Wing{house(), other}, "0", "-1", "", 0, 0, api.ErrNone},
		{"both wings", []api.Wing{house(), gabled()}, "4", "2", "4", 0, 0, api.OK}, {"both wings, the other way", []api.Wing{gabled(), house()}, "4", "5", "3", 0, 2, api.OK}, {"the higher one of both", []api.Wing{house(), gabled()}, "1", "3", "5", 1, 0, api.OK},
		{"the second one as high as the third one", []api.Wing{rectangle("0", "0", "8", "6", "1", "1", "1", "1", "1"), house(), house()}, "4", "1", "3", 1, 0, api.OK}, {"the middle of a wing within", []api.Wing{inner, house()}, "4", "3", "5", 1, 0, api.OK},
		{"below 0", []api.Wing{changed(height("-10"))}, "4", "3", "-7", 0, 0, api.OK}, {"the higher one below 0", []api.Wing{changed(height("-10")), changed(height("-9"))}, "4", "3", "-6", 1, 0, api.OK},
	} {
		h, e := roof.Height(row.roof, [2]api.Rat{row.x, row.y})
		want(t, "Height at "+row.what, h, e, row.h, row.e)
		sides, e := both(roof.Facing(row.roof, [2]api.Rat{row.x, row.y}))
		want(t, "Facing at "+row.what, sides, e, [2]int{row.wing, row.side}, row.e)
	}
}

// Heights may have 600 digits, but not more; the numbers of what is on the way may.
func TestHeightAtLimits(t *testing.T) {
	for _, row := range []struct {
		height, x, y api.Rat
		h            api.Rat
		e            api.Errno
	}{
		{nines(600), "0", "0", nines(600), api.OK}, {nines(600), "1", "1", "", api.ErrLarge}, {"-" + power(599), "1", "1", "-" + nines(599), api.OK},
		{"1/" + power(599), "1/11", "3", "", api.ErrLarge}, {"0", "1/" + nines(600), "3", "1/" + nines(600), api.OK},
	} {
		h, e := roof.Height([]api.Wing{changed(height(row.height))}, [2]api.Rat{row.x, row.y})
		want(t, "Height", h, e, row.h, row.e)
		_, _, e = roof.Facing([]api.Wing{changed(height(row.height))}, [2]api.Rat{row.x, row.y})
		wantError(t, "Facing where the height is of any size", e, api.OK)
	}
}

// TestAnyHeights compares heights with those of the definitions.
func TestAnyHeights(t *testing.T) {
	s := newSource(3)
	for range 200 {
		l := make([]api.Wing, 1+s.Intn(3))
		for i := range l {
			l[i] = s.wing()
		}
		for range 10 {
			p := s.inside(modelOf(l[0]))
			p[s.Intn(2)].Add(p[0], bigOf(s.rat(0, 1)))
			var most *big.Rat
			var facing [2]int
			for i, w := range l {
				m := modelOf(w)
				if z, side := m.height(p); m.covers(p) && (most == nil || z.Cmp(most) > 0) {
					most, facing = z, [2]int{i, side}
				}
			}
			h, e := roof.Height(l, rats(p))
			sides, errFacing := both(roof.Facing(l, rats(p)))
			if most == nil {
				want(t, "Height beyond a roof", h, e, "", api.ErrNone)
			} else {
				want(t, "Height of a roof", h, e, ratOf(most), api.OK)
			}
			want(t, "Facing of a roof", sides, errFacing, facing, e)
		}
	}
}

func TestFacets(t *testing.T) {
	l, e := roof.Facets(house())
	want(t, "Facets", l, e, []roof.Facet{
		{Side: 0, Corners: [][2]api.Rat{{"0", "0"}, {"8", "0"}, {"5", "3"}, {"3", "3"}}}, {Side: 1, Corners: [][2]api.Rat{{"5", "3"}, {"8", "0"}, {"8", "6"}}},
		{Side: 2, Corners: [][2]api.Rat{{"0", "6"}, {"3", "3"}, {"5", "3"}, {"8", "6"}}}, {Side: 3, Corners: [][2]api.Rat{{"0", "0"}, {"3", "3"}, {"0", "6"}}},
	}, api.OK)
	l, e = roof.Facets(gabled())
	want(t, "Facets with gables", l, e, []roof.Facet{
		{Side: 0, Corners: [][2]api.Rat{{"0", "0"}, {"8", "0"}, {"8", "3"}, {"0", "3"}}}, {Side: 2, Corners: [][2]api.Rat{{"0", "3"}, {"8", "3"}, {"8", "6"}, {"0", "6"}}},
	}, api.OK)
	l, e = roof.Facets(rectangle("0", "0", "4", "6", "0", "", "", "1/2", ""))
	want(t, "the facet of a lean-to", l, e, []roof.Facet{{Side: 2, Corners: [][2]api.Rat{{"0", "0"}, {"4", "0"}, {"4", "6"}, {"0", "6"}}}}, api.OK)
}

func TestAreas(t *testing.T) {
	a, e := both(roof.Areas(house()))
	want(t, "Areas", a, e, [2][]api.Rat{{"15", "9", "15", "9"}, {"450", "162", "450", "162"}}, api.OK)
	a, e = both(roof.Areas(rectangle("0", "0", "8", "6", "2", "3/4", "", "3/4", "")))
	want(t, "Areas with gables", a, e, [2][]api.Rat{{"24", "24"}, {"900", "900"}}, api.OK)
}

// Results may have 600 digits, but not more.
func TestFacetsAtLimits(t *testing.T) {
	far := changed(changes(corner(1, power(599), "0"), corner(2, power(599), "6")))
	a, e := both(roof.Areas(changed(changes(corner(1, nines(599), "0"), corner(2, nines(599), "6"), slope(1, ""), slope(3, "")))))
	want(t, "large areas", a, e, [2][]api.Rat{}, api.ErrLarge) // not in plan, but their squares
	_, e = roof.Facets(far)
	wantError(t, "Facets with far corners", e, api.OK)
	_, e = roof.Facets(changed(changes(corner(1, nines(600), "0"), corner(2, nines(600), "6"), slope(1, "1/7"))))
	wantError(t, "Facets with far corners and a flat slope", e, api.OK)
	l, e := roof.Facets(changed(changes(corner(1, nines(600), "0"), corner(2, nines(600), "6"), slope(1, "7/2"))))
	want(t, "Facets with a corner of too many digits", l, e, nil, api.ErrLarge)
	thin := rectangle("0", "0", power(299), "6", "0", "1", "", "1", "")
	a, e = both(roof.Areas(thin))
	want(t, "areas of few digits", a, e, [2][]api.Rat{{"3" + power(299)[1:], "3" + power(299)[1:]}, {"18" + power(598)[1:], "18" + power(598)[1:]}}, api.OK)
	// The normals are above MaxNumber, and this is no error here.
	l, e = roof.Facets(changed(changes(slope(0, nines(300)), slope(2, nines(300)))))
	wantError(t, "Facets with steep slopes", e, api.OK)
	if len(l) != 4 || !slices.Equal(l[3].Corners[:1], [][2]api.Rat{{"0", "0"}}) {
		t.Errorf("Facets with steep slopes: got %v", l)
	}
}

// wantFacet checks that a polygon has the right form, and no points that are not in the facet of a side.
func wantFacet(t *testing.T, m model, f roof.Facet) []place {
	t.Helper()
	var corners []place
	for _, p := range f.Corners {
		corners = append(corners, place{bigOf(p[0]), bigOf(p[1])})
	}
	for i, p := range corners {
		q, r := corners[(i+1)%len(corners)], corners[(i+2)%len(corners)]
		if area([]place{p, q, r}).Sign() <= 0 || i > 0 && p.compare(corners[0]) <= 0 {
			t.Errorf("the facet %v has a wrong form", f)
		}
		if !m.faces(f.Side, p) {
			t.Errorf("the corner %v of the facet %v is not in it", f.Corners[i], f)
		}
	}
	return corners
}

// TestAnyFacets has polygons that are convex, and whose corners are in the facets: so they are these, if
// their areas are together that of the wing.
func TestAnyFacets(t *testing.T) {
	s := newSource(4)
	for range 300 {
		w := s.wing()
		m := modelOf(w)
		l, e := roof.Facets(w)
		areas, squares, errAreas := roof.Areas(w)
		if e != api.OK || errAreas != api.OK || len(l) != len(m.planes) || len(areas) != len(l) || len(squares) != len(l) {
			t.Fatalf("Facets and Areas of %v: %v and %v, errors %d and %d", w, l, areas, e, errAreas)
		}
		sum, last := new(big.Rat), -1
		for i, f := range l {
			if _, ok := m.planes[f.Side]; !ok || f.Side <= last {
				t.Fatalf("Facets of %v: got %v", w, l)
			}
			last = f.Side
			a := area(wantFacet(t, m, f))
			want(t, "an area", areas[i], 0, ratOf(a), 0)
			slope := bigOf(w.Slopes[f.Side])
			want(t, "the square of an area", squares[i], 0, ratOf(mul(square(a), add(frac(1, 1), square(slope)))), 0)
			sum = add(sum, a)
		}
		want(t, "all areas", ratOf(sum), 0, ratOf(area(m.corners)), 0)
	}
}
