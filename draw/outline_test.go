package draw_test

import (
	"math/big"
	"slices"
	"testing"

	"trunnel/api"
	"trunnel/draw"
	"trunnel/solid"
	"trunnel/space"
)

// P9.3

func TestOutlines(t *testing.T) {
	for _, row := range []struct {
		what   string
		s      api.Solid
		v      api.View
		wanted string
		area   api.Rat
	}{
		{"a box", near(), front(), "0 0, 2 0, 2 4, 0 4", "8"},
		{"a box from above", near(), top(), "0 0, 2 0, 2 3, 0 3", "6"},
		{"the cube", cube(), skew(), "-1/2 1/6, 0 0, 1/2 1/6, 1/2 1/2, 0 2/3, -1/2 1/2", "1/2"},
		{"a box in two halves", boxes("0 0 0 1 3 4, 1 0 0 2 3 4"), front(), "0 0, 2 0, 2 4, 0 4", "8"},
		{"boxes beside each other", append(near(), box("2 0 0 3 1 1")), front(), "0 0, 3 0, 3 1, 2 4, 0 4", "21/2"},
		{"boxes apart", boxes("0 0 0 1 1 1, 4 0 2 5 1 3"), front(), "0 0, 1 0, 5 2, 5 3, 4 3, 0 1", "7"},
		{"a box that hides another one", boxes("0 0 0 4 1 4, 1 2 1 2 3 2"), front(), "0 0, 4 0, 4 4, 0 4", "16"},
		{"a tetrahedron", api.Solid{hull("0 0 0, 1 0 0, 0 1 0, 0 0 1")}, front(), "0 0, 1 0, 0 1", "1/2"},
		{"a tetrahedron from below", api.Solid{hull("0 0 0, 1 0 0, 0 1 0, 0 0 1")}, view("0 0 0", "-1 0 0", "0 1 0"), "-1 0, 0 0, 0 1", "1/2"},
		{"with other lengths and another origin", near(), view("1 1 1", "-2 0 0", "0 0 1/3"), "-1/2 -3, 1/2 -3, 1/2 9, -1/2 9", "12"},
	} {
		o, e := draw.Outline(row.s, row.v)
		want(t, "Outline of "+row.what, o, e, places(row.wanted), api.OK)
		a, e := draw.Area(o)
		want(t, "Area of "+row.what, a, e, row.area, api.OK)
	}
	for _, s := range []api.Solid{nil, {}} {
		o, e := draw.Outline(s, front())
		want(t, "Outline of nothing", o, e, nil, api.ErrEmpty)
	}
}

// left returns 1, 0 or -1 if c is to the left of the way from a to b, on its line, or to the right.
func left(a, b, c [2]api.Rat) int {
	x, y := minus(numOf(b[0]), numOf(a[0])), minus(numOf(b[1]), numOf(a[1]))
	return times(x, minus(numOf(c[1]), numOf(a[1]))).Cmp(times(y, minus(numOf(c[0]), numOf(a[0]))))
}

// hullOf returns the corners of the hull of places: from the first one on always that to the right of which there is none.
func hullOf(all [][2]api.Rat) [][2]api.Rat {
	at := slices.MinFunc(all, comparePlaces)
	corners := [][2]api.Rat{at}
	for {
		next := at
		for _, p := range all {
			turn := left(at, next, p)
			isFarther := turn == 0 && length(at, p).Cmp(length(at, next)) > 0
			if next == at || turn < 0 || isFarther {
				next = p
			}
		}
		if next == corners[0] {
			return corners
		}
		corners, at = append(corners, next), next
	}
}

// length returns the square of the way from one place to another one.
func length(a, b [2]api.Rat) *big.Rat {
	x, y := minus(numOf(b[0]), numOf(a[0])), minus(numOf(b[1]), numOf(a[1]))
	return plus(times(x, x), times(y, y))
}

func comparePlaces(a, b [2]api.Rat) int {
	if c := sure(space.Compare(a[0], b[0])); c != 0 {
		return c
	}
	return sure(space.Compare(a[1], b[1]))
}

func TestOutlinesOfAnySolids(t *testing.T) {
	s := newSource(9)
	for range 150 {
		one, v := s.solid(), s.view()
		if len(one) == 0 {
			continue
		}
		var all [][2]api.Rat
		for _, b := range one {
			for _, p := range sure(solid.Corners(b)) {
				all = append(all, sure(draw.Place(v, p)))
			}
		}
		o, e := draw.Outline(one, v)
		want(t, "Outline", o, e, hullOf(all), api.OK)
	}
}

func TestAreas(t *testing.T) {
	for _, row := range []struct {
		polygon string
		wanted  api.Rat
	}{
		{"0 0, 1 0, 0 1", "1/2"},
		{"0 0, 0 1, 1 0", "-1/2"},
		{"1 0, 0 1, 0 0", "1/2"},
		{"0 0, 2 0, 2 3, 0 3", "6"},
		{"5 7, 7 7, 7 10, 5 10", "6"},
		{"1/2 0, 3/2 1/3, -1 2", "5/4"},
		{"0 0, 1 1, 2 2", "0"},
		{"1 2, 1 2, 1 2", "0"},
		{"0 0, 2 2, 2 0, 0 2", "0"},
		{"0 0, 4 0, 4 4, 2 1, 0 4", "10"},
		{"0 0, 1 0, 1 1, 0 1, 0 0, 1 0, 1 1, 0 1", "2"},
	} {
		a, e := draw.Area(places(row.polygon))
		want(t, "Area of "+row.polygon, a, e, row.wanted, api.OK)
	}
}

func TestAreasOfAnyPolygons(t *testing.T) {
	s := newSource(10)
	for range 100 {
		polygon := make([][2]api.Rat, s.from(3, 12))
		for i := range polygon {
			polygon[i] = [2]api.Rat{s.rat(-5, 5), s.rat(-5, 5)}
		}
		sum := new(big.Rat)
		for i, p := range polygon {
			q := polygon[(i+1)%len(polygon)]
			sum = plus(sum, minus(times(numOf(p[0]), numOf(q[1])), times(numOf(q[0]), numOf(p[1]))))
		}
		a, e := draw.Area(polygon)
		want(t, "Area", a, e, ratOf(times(sum, big.NewRat(1, 2))), api.OK)
	}
}

// round returns the corners of a polygon with so many corners, on a parabola and the line between its ends.
func round(corners int) [][2]api.Rat {
	var l [][2]api.Rat
	for i := range corners {
		l = append(l, [2]api.Rat{integer(i), integer(i * i)})
	}
	return l
}

func TestErrorsOfArea(t *testing.T) {
	for _, row := range []struct {
		what    string
		polygon [][2]api.Rat
		e       api.Errno
	}{
		{"no places", nil, api.ErrEmpty},
		{"one place", places("0 0"), api.ErrEmpty},
		{"two places", places("0 0, 1 0"), api.ErrEmpty},
		{"three places", places("0 0, 1 0, 0 1"), api.OK},
		{"256 places", round(256), api.OK},
		{"257 places", round(257), api.ErrMany},
		{"257 places with an error", append(round(256), [2]api.Rat{"x", "0"}), api.ErrMany},
		{"two places with an error", places("0 0, 1 x"), api.ErrForm},
		{"a first coordinate with an error", places("0 0, 2/4 0, 0 1"), api.ErrForm},
		{"a second coordinate with an error", places("0 0, 1 0, 0 +1"), api.ErrForm},
		{"a large coordinate", append(places("0 0, 1 0"), [2]api.Rat{"0", ten(601)}), api.ErrLarge},
		{"a large coordinate ahead of one with another error", append(places("0 0"), [2]api.Rat{ten(601), "x"}, [2]api.Rat{"x", "0"}), api.ErrLarge},
		{"a place with an error ahead of a large one", append(places("0 x"), [2]api.Rat{ten(601), "0"}, [2]api.Rat{"0", "0"}), api.ErrForm},
	} {
		a, e := draw.Area(row.polygon)
		wantError(t, "Area of "+row.what, e, row.e)
		if e != api.OK && a != "" {
			t.Errorf("Area of %s: got %s beside an error", row.what, a)
		}
	}
}

func TestShadows(t *testing.T) {
	for _, row := range []struct {
		what   string
		b      api.Body
		v      api.View
		wanted api.Rat
	}{
		{"a box", near()[0], front(), "8"},
		{"a box from above", near()[0], top(), "6"},
		{"a box from below", near()[0], view("0 0 0", "1 0 0", "0 -1 0"), "6"},
		{"the cube", cube()[0], skew(), "1/2"},
		{"the cube with another origin", cube()[0], view("7 8 9", "1 -1 0", "1 1 2"), "1/2"},
		{"the cube with other lengths", cube()[0], view("0 0 0", "-2 0 0", "0 0 1/3"), "3/2"},
		{"a tetrahedron", hull("0 0 0, 1 0 0, 0 1 0, 0 0 1"), front(), "1/2"},
		{"a tetrahedron, from an edge", hull("0 0 0, 1 0 0, 0 1 0, 0 0 1"), view("0 0 0", "1 -1 0", "0 0 1"), "1/2"},
	} {
		a, e := draw.Shadow(row.b, row.v)
		want(t, "Shadow of "+row.what, a, e, row.wanted, api.OK)
	}
}

func TestShadowsOfAnyBodies(t *testing.T) {
	s := newSource(11)
	for range 100 {
		b, v := s.body(), s.view()
		toward := sceneOf(nil, v).toward
		sum := new(big.Rat)
		for _, area := range sure(solid.Areas(b)) {
			sum = plus(sum, new(big.Rat).Abs(pointOf(area).dot(toward)))
		}
		a, e := draw.Shadow(b, v)
		want(t, "Shadow", a, e, ratOf(over(sum, times(big.NewRat(2, 1), toward.dot(toward)))), api.OK)
	}
}
