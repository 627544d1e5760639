package raise_test

import (
	"slices"
	"testing"

	"trunnel/api"
	"trunnel/raise"
)

// Hull and Inside of P8.2

// curve returns so many points of a parabola, in lexicographic order.
func curve(count int) [][2]api.Rat {
	var l [][2]api.Rat
	for i := range count {
		l = append(l, [2]api.Rat{integer(i), integer(i * i)})
	}
	return l
}

func TestHullOfExamples(t *testing.T) {
	for _, x := range []struct {
		what, points, corners string
	}{
		{"a point", "1/2 -3", "1/2 -3"},
		{"a point, many times", "1 2, 1 2, 1 2", "1 2"},
		{"two points", "1 0, 0 5", "0 5, 1 0"},
		{"two points above each other", "1 2, 1 -2, 1 2", "1 -2, 1 2"},
		{"points on a line", "1 1, 3 3, 0 0, 2 2, 3 3, 0 0", "0 0, 3 3"},
		{"points on an upright line", "0 1, 0 -3, 0 1/2", "0 -3, 0 1"},
		{"points on a falling line", "0 1, 1 0, 1/2 1/2", "0 1, 1 0"},
		{"points on a level line", "4 2, -1/2 2, -1/3 2", "-1/2 2, 4 2"},
		{"a triangle", "0 2, 2 0, 0 0", "0 0, 2 0, 0 2"},
		{"a triangle below its least corner", "0 0, 1 -2, 1 -1", "0 0, 1 -2, 1 -1"},
		{"a triangle with points on its sides, and inside", "1 1, 2 0, 0 0, 1 0, 0 2, 1/2 1/2, 0 1, 1/3 1/3", "0 0, 2 0, 0 2"},
		{"a square", "1 1, 0 1, 0 0, 1 0", "0 0, 1 0, 1 1, 0 1"},
		{"a square with two upright sides full of points", "1 1, 0 1, 0 0, 1 0, 0 1/2, 1 1/2, 1 1/3", "0 0, 1 0, 1 1, 0 1"},
		{"a rhombus", "0 -1, -1 0, 1 0, 0 1, 0 0", "-1 0, 0 -1, 1 0, 0 1"},
		{"numbers, not texts, in order", "10 0, 9 0, -1 0, -2 0, 1/2 1, 1/3 -1", "-2 0, 1/3 -1, 10 0, 1/2 1"},
		{"a corner that is hardly one", "0 0, 2 0, 1 -1/999999999999999999999999, 1 1", "0 0, 1 -1/999999999999999999999999, 2 0, 1 1"},
		{"a point that is hardly none", "0 0, 2 0, 1 1/999999999999999999999999, 1 1", "0 0, 2 0, 1 1"},
	} {
		got, e := raise.Hull(points(x.points))
		want(t, "Hull of "+x.what, got, e, points(x.corners), api.OK)
		got, e = raise.Hull(got)
		want(t, "Hull of the hull of "+x.what, got, e, points(x.corners), api.OK)
	}
}

func TestLimitsOfHulls(t *testing.T) {
	large := [2]api.Rat{"-" + digits(600), "1/" + digits(600)}
	got, e := raise.Hull([][2]api.Rat{{"0", "0"}, large})
	want(t, "Hull of a point far away", got, e, [][2]api.Rat{large, {"0", "0"}}, api.OK)
	got, e = raise.Hull(slices.Concat(points("0 0"), curve(256)[1:]))
	want(t, "Hull of 256 points", got, e, curve(256), api.OK)
	is, e := raise.Inside(curve(256), [2]api.Rat{"254", "64517"})
	want(t, "Inside of 256 corners, just below a side", is, e, true, api.OK)
	is, e = raise.Inside(curve(256), [2]api.Rat{"509/2", "129541/2"})
	want(t, "Inside of 256 corners, on a side", is, e, true, api.OK)
	is, e = raise.Inside(curve(256), [2]api.Rat{"509/2", "64770"})
	want(t, "Inside of 256 corners, just outside", is, e, false, api.OK)
}

// wrongPoints are points with an error.
func wrongPoints() []struct {
	what string
	l    [][2]api.Rat
	e    api.Errno
} {
	return []struct {
		what string
		l    [][2]api.Rat
		e    api.Errno
	}{
		{"none", nil, api.ErrEmpty},
		{"an empty list", [][2]api.Rat{}, api.ErrEmpty},
		{"257 points", curve(257), api.ErrMany},
		{"257 wrong points", make([][2]api.Rat, 257), api.ErrMany},
		{"256 wrong points", make([][2]api.Rat, 256), api.ErrForm},
		{"a wrong first number", points("0 0, 2/4 1"), api.ErrForm},
		{"a wrong second number", points("0 0, 2 0, 1 01"), api.ErrForm},
		{"a large number", [][2]api.Rat{{"0", digits(601)}}, api.ErrLarge},
		{"the first number of a point ahead of the second one", [][2]api.Rat{{digits(601), "x"}}, api.ErrLarge},
		{"a point ahead of another one", [][2]api.Rat{{"0", "x"}, {digits(601), "0"}}, api.ErrForm},
		{"a large point ahead of another one", [][2]api.Rat{{"0", digits(601)}, {"x", "0"}}, api.ErrLarge},
	}
}

func TestErrorsOfPoints(t *testing.T) {
	for _, x := range wrongPoints() {
		got, e := raise.Hull(x.l)
		want(t, "Hull of "+x.what, got, e, nil, x.e)
		is, e := raise.Inside(x.l, [2]api.Rat{"0", "0"})
		want(t, "Inside of "+x.what, is, e, false, x.e)
		is, e = raise.Inside(x.l, [2]api.Rat{digits(601), ""})
		want(t, "Inside, for a wrong point, of "+x.what, is, e, false, x.e)
	}
	triangle := points("0 0, 2 0, 0 2")
	for _, x := range []struct {
		what string
		l    [][2]api.Rat
		p    [2]api.Rat
		e    api.Errno
	}{
		{"another first corner", points("2 0, 0 2, 0 0"), [2]api.Rat{"0", "0"}, api.ErrForm},
		{"the other way round", points("0 0, 0 2, 2 0"), [2]api.Rat{"0", "0"}, api.ErrForm},
		{"a corner twice", points("0 0, 2 0, 2 0, 0 2"), [2]api.Rat{"0", "0"}, api.ErrForm},
		{"a closed way", points("0 0, 2 0, 0 2, 0 0"), [2]api.Rat{"0", "0"}, api.ErrForm},
		{"a point on a side", points("0 0, 1 0, 2 0, 0 2"), [2]api.Rat{"0", "0"}, api.ErrForm},
		{"a point inside", points("0 0, 2 0, 0 2, 1/2 1/2"), [2]api.Rat{"0", "0"}, api.ErrForm},
		{"a notch", points("0 0, 4 0, 1 1, 0 4"), [2]api.Rat{"0", "0"}, api.ErrForm},
		{"a star", points("0 0, 3 2, 0 2, 3 0, 1 3"), [2]api.Rat{"0", "0"}, api.ErrForm},
		{"two points the other way round", points("1 0, 0 0"), [2]api.Rat{"0", "0"}, api.ErrForm},
		{"a point twice", points("1 0, 1 0"), [2]api.Rat{"0", "0"}, api.ErrForm},
		{"three points on a line", points("0 0, 1 0, 2 0"), [2]api.Rat{"0", "0"}, api.ErrForm},
		{"no polygon and a large point", points("1 0, 1 0"), [2]api.Rat{digits(601), "0"}, api.ErrForm},
		{"a wrong first coordinate", triangle, [2]api.Rat{"", "0"}, api.ErrForm},
		{"a wrong second coordinate", triangle, [2]api.Rat{"0", "-0"}, api.ErrForm},
		{"a large coordinate", triangle, [2]api.Rat{"0", digits(601)}, api.ErrLarge},
		{"a large coordinate ahead of a wrong one", triangle, [2]api.Rat{"1/" + digits(601), "x"}, api.ErrLarge},
	} {
		is, e := raise.Inside(x.l, x.p)
		want(t, "Inside with "+x.what, is, e, false, x.e)
	}
}

func TestInsideOfExamples(t *testing.T) {
	for _, x := range []struct {
		what, polygon, inside, outside string
	}{
		{"a point", "1/2 3", "1/2 3", "1/2 4, 0 3, 1/3 3"},
		{"a segment", "0 0, 4 2", "0 0, 4 2, 2 1, 1/3 1/6", "-2 -1, 6 3, 2 0, 2 1001/1000, 4 0"},
		{"an upright segment", "1 -1, 1 1", "1 0, 1 1, 1 -1", "1 2, 1 -3/2, 0 0"},
		{"a triangle", "0 0, 2 0, 0 2", "1 1, 1/2 1/2, 0 2, 0 0, 2 0, 0 1, 3/2 0, 1/2 3/2", "3/2 1, -1 0, 3 0, 0 -1/9, -1/9 1, 1 1000001/1000000"},
		{"a square", "0 0, 1 0, 1 1, 0 1", "1/2 1/2, 1 1/2, 1 1, 1/3 0", "2 1/2, 1/2 2, -1 1/2, 1/2 -1, 2 2, 1 2, 2 1, -1 0"},
	} {
		for _, p := range points(x.inside) {
			is, e := raise.Inside(points(x.polygon), p)
			want(t, "Inside of "+x.what+" at "+string(p[0]+" "+p[1]), is, e, true, api.OK)
		}
		for _, p := range points(x.outside) {
			is, e := raise.Inside(points(x.polygon), p)
			want(t, "Inside of "+x.what+" at "+string(p[0]+" "+p[1]), is, e, false, api.OK)
		}
	}
	long := [2]api.Rat{digits(600), "1/" + digits(600)}
	is, e := raise.Inside([][2]api.Rat{{"0", "0"}, long}, [2]api.Rat{"1", "1"})
	want(t, "Inside of a long segment", is, e, false, api.OK)
	is, e = raise.Inside([][2]api.Rat{{"0", "0"}, long}, long)
	want(t, "Inside of a long segment, at its end", is, e, true, api.OK)
}

// places returns points of a small grid, with other ones between them.
func (s source) places(most int) [][2]api.Rat {
	l := make([][2]api.Rat, s.from(1, most))
	for i := range l {
		l[i] = [2]api.Rat{s.rat(-2, 2), s.rat(-2, 2)}
	}
	return l
}

func TestHullAndInsideOfAnyPoints(t *testing.T) {
	s := newSource(3)
	count := map[bool]int{}
	for range 400 {
		l := s.places(9)
		var all []place
		for _, p := range l {
			all = append(all, placeOf(p))
		}
		corners, e := raise.Hull(l)
		want(t, "Hull", corners, e, cornersOf(all), api.OK)
		for _, p := range append(s.places(6), l[0]) {
			is, e := raise.Inside(corners, p)
			want(t, "Inside", is, e, !isOutside(all, placeOf(p)), api.OK)
			count[is]++
		}
	}
	if count[true] < 200 || count[false] < 200 {
		t.Errorf("inside or not: %v", count)
	}
}
