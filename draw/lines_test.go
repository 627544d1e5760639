package draw_test

import (
	"slices"
	"testing"

	"trunnel/api"
	"trunnel/draw"
	"trunnel/solid"
	"trunnel/space"
)

// P9.2: Lines and IsDrawing.

// nearLines and bothLines are the drawings of example 2, and cubeLines is that of example 3.
func nearLines() []api.Line {
	return lines("v 0 0 0 4, v 0 0 2 0, v 0 4 2 4, v 2 0 2 4")
}

func bothLines() []api.Line {
	return lines("v 0 0 0 4, v 0 0 2 0, h 0 1 1 1, v 0 4 2 4, h 1 0 1 1, v 2 0 2 4")
}

func cubeLines() []api.Line {
	return lines("v -1/2 1/6 -1/2 1/2, v -1/2 1/6 0 0, h -1/2 1/6 0 1/3, v -1/2 1/2 0 1/3, v -1/2 1/2 0 2/3, v 0 0 0 1/3," +
		"v 0 0 1/2 1/6, h 0 1/3 0 2/3, h 0 1/3 1/2 1/6, v 0 1/3 1/2 1/2, v 0 2/3 1/2 1/2, v 1/2 1/6 1/2 1/2")
}

func TestLines(t *testing.T) {
	small, beside := boxes("1 -1 1 2 0 2"), boxes("2 0 0 3 1 1")
	for _, row := range []struct {
		what   string
		solids []api.Solid
		v      api.View
		wanted []api.Line
	}{
		{"nothing", nil, front(), nil},
		{"solids without bodies", []api.Solid{nil, {}}, front(), nil},
		{"a box", []api.Solid{near()}, front(), nearLines()},
		{"a box and one behind it", []api.Solid{near(), behind()}, front(), bothLines()},
		{"both in the other order", []api.Solid{behind(), near()}, front(), bothLines()},
		{"the same box twice", []api.Solid{near(), near()}, front(), nearLines()},
		{"a box in two halves", []api.Solid{boxes("0 0 0 1 3 4, 1 0 0 2 3 4")}, front(), nearLines()},
		{"a box of two solids", []api.Solid{boxes("0 0 0 1 3 4"), boxes("1 0 0 2 3 4")}, front(), lines("v 0 0 0 4, v 0 0 2 0, v 0 4 2 4, v 1 0 1 4, v 2 0 2 4")},
		{"a box and one in front of it", []api.Solid{near(), small}, front(), lines("v 0 0 0 4, v 0 0 2 0, v 0 4 2 4, v 1 1 1 2, v 1 1 2 1, v 1 2 2 2, v 2 0 2 4")},
		{"a box beside another one", []api.Solid{near(), beside}, front(), lines("v 0 0 0 4, v 0 0 3 0, v 0 4 2 4, v 2 0 2 4, v 2 1 3 1, v 3 0 3 1")},
		{"a box that is hidden in part", []api.Solid{near(), boxes("-1 5 1 3 6 2")}, front(),
			lines("v -1 1 -1 2, v -1 1 0 1, v -1 2 0 2, v 0 0 0 4, v 0 0 2 0, h 0 1 2 1, h 0 2 2 2, v 0 4 2 4, v 2 0 2 4, v 2 1 3 1, v 2 2 3 2, v 3 1 3 2")},
		{"a box behind two others", []api.Solid{boxes("0 0 0 1 1 3"), boxes("1 2 0 2 3 3"), boxes("0 5 1 2 6 2")}, front(),
			lines("v 0 0 0 3, v 0 0 2 0, h 0 1 2 1, h 0 2 2 2, v 0 3 2 3, v 1 0 1 3, v 2 0 2 3")},
		{"a box behind a solid with a gap", []api.Solid{boxes("0 0 0 1 1 3, 2 0 0 3 1 3"), boxes("0 5 1 3 6 2")}, front(),
			lines("v 0 0 0 3, v 0 0 1 0, h 0 1 1 1, h 0 2 1 2, v 0 3 1 3, v 1 0 1 3, v 1 1 2 1, v 1 2 2 2, v 2 0 2 3, v 2 0 3 0, h 2 1 3 1, h 2 2 3 2, v 2 3 3 3, v 3 0 3 3")},
		{"a wall behind a seam", []api.Solid{boxes("0 0 0 1 1 3, 1 0 0 2 1 3"), boxes("1 5 1 4 6 2")}, front(),
			lines("v 0 0 0 3, v 0 0 2 0, v 0 3 2 3, h 1 1 1 2, h 1 1 2 1, h 1 2 2 2, v 2 0 2 3, v 2 1 4 1, v 2 2 4 2, v 4 1 4 2")},
		{"a wall behind two solids", []api.Solid{boxes("0 0 0 1 1 3"), boxes("1 0 0 2 1 3"), boxes("1 5 1 4 6 2")}, front(),
			lines("v 0 0 0 3, v 0 0 2 0, v 0 3 2 3, v 1 0 1 3, h 1 1 2 1, h 1 2 2 2, v 2 0 2 3, v 2 1 4 1, v 2 2 4 2, v 4 1 4 2")},
		{"a lower box in front of a higher one", []api.Solid{boxes("0 0 0 2 1 1"), boxes("0 2 0 2 3 2")}, front(),
			lines("v 0 0 0 2, v 0 0 2 0, v 0 1 2 1, v 0 2 2 2, v 2 0 2 2")},
		{"a box within another one", []api.Solid{near(), boxes("1 1 1 3/2 2 2")}, front(),
			lines("v 0 0 0 4, v 0 0 2 0, v 0 4 2 4, h 1 1 1 2, h 1 1 3/2 1, h 1 2 3/2 2, h 3/2 1 3/2 2, v 2 0 2 4")},
		{"the cube", []api.Solid{cube()}, skew(), cubeLines()},
		{"the cube from above", []api.Solid{cube()}, top(), lines("v 0 0 0 1, v 0 0 1 0, v 0 1 1 1, v 1 0 1 1")},
		{"with other lengths and another origin", []api.Solid{cube()}, view("1/2 7 1", "-2 0 0", "0 0 1/3"), lines("v -1/4 -3 -1/4 0, v -1/4 -3 1/4 -3, v -1/4 0 1/4 0, v 1/4 -3 1/4 0")},
	} {
		l, e := draw.Lines(row.solids, row.v)
		want(t, "Lines of "+row.what, l, e, row.wanted, api.OK)
		is, e := draw.IsDrawing(row.solids, row.v, row.wanted)
		want(t, "IsDrawing of "+row.what, is, e, true, api.OK)
	}
}

func TestLinesOfAnySolids(t *testing.T) {
	s := newSource(7)
	visible, hidden := 0, 0
	for range 80 {
		solids, v := s.solids(2), s.view()
		wanted := sceneOf(solids, v).drawing()
		l, e := draw.Lines(solids, v)
		want(t, "Lines", l, e, wanted, api.OK)
		is, e := draw.IsDrawing(solids, v, wanted)
		want(t, "IsDrawing", is, e, true, api.OK)
		for _, one := range l {
			if one.Hidden {
				hidden++
			} else {
				visible++
			}
		}
	}
	if min(visible, hidden) < 200 {
		t.Errorf("too few lines: %d visible, %d hidden", visible, hidden)
	}
}

// Seams in planes along Toward, with walls behind them and in front of them.
func TestLinesBehindSeams(t *testing.T) {
	s := newSource(8)
	for range 60 {
		v := s.view()
		toward := sceneOf(nil, v).toward.vec()
		n := sure(space.Cross(toward, s.vec(-2, 2)))
		one := api.Solid{s.body()}
		corner := sure(solid.Corners(s.body()))[0]
		h, e := space.MakeHalf(n, sure(space.Dot(n, corner)))
		if e != api.OK {
			continue
		}
		one = divided(one, h)
		// Other bodies have corners, and perhaps edges, in the plane of the seam.
		far := sure(space.AddVec(corner, sure(space.Scale(s.rat(-4, 4), toward))))
		other := sure(solid.Box(plain(far), vec("1 2 3")))
		solids := []api.Solid{one, divided(api.Solid{other}, h)}
		l, e := draw.Lines(solids, v)
		want(t, "Lines behind seams", l, e, sceneOf(solids, v).drawing(), api.OK)
	}
}

// changes returns lists that are not a drawing: each of its lines left out, moved, divided, seen otherwise, ..
func changes(l []api.Line) [][]api.Line {
	all := [][]api.Line{nil}
	for i, one := range l {
		change := func(lines ...api.Line) { all = append(all, slices.Concat(l[:i], lines, l[i+1:])) }
		other := one
		other.Hidden = !one.Hidden
		change()
		change(other)
		other = one
		other.To[1] = sure(space.Add(one.To[1], "1/1000000"))
		change(other)
		first, last := one, one
		for k := range 2 {
			first.To[k] = sure(space.Mul("1/2", sure(space.Add(one.From[k], one.To[k]))))
		}
		last.From = first.To
		change(first)
		change(first, last)
		change(last)
		change(one, last)
	}
	return append(all, append(slices.Clone(l), lines("v 100 0 101 0")...))
}

func TestListsThatAreNoDrawings(t *testing.T) {
	for _, row := range []struct {
		solids []api.Solid
		v      api.View
		l      []api.Line
	}{
		{[]api.Solid{near()}, front(), nearLines()},
		{[]api.Solid{near(), behind()}, front(), bothLines()},
		{[]api.Solid{cube()}, skew(), cubeLines()},
		{nil, top(), nil},
	} {
		for _, l := range changes(row.l) {
			slices.SortFunc(l, compareLines)
			if draw.CheckLines(l) != api.OK || len(l) == len(row.l) && len(l) == 0 {
				continue
			}
			is, e := draw.IsDrawing(row.solids, row.v, l)
			want(t, "IsDrawing of other lines", is, e, false, api.OK)
		}
	}
	is, e := draw.IsDrawing([]api.Solid{near()}, front(), bothLines())
	want(t, "IsDrawing of one alone", is, e, false, api.OK)
	is, e = draw.IsDrawing([]api.Solid{near(), behind()}, front(), nearLines())
	want(t, "IsDrawing without hidden lines", is, e, false, api.OK)
	is, e = draw.IsDrawing([]api.Solid{cube()}, front(), cubeLines())
	want(t, "IsDrawing in another view", is, e, false, api.OK)
}

// compareLines compares lines by their first places, then by their last ones, then visible ones come first.
func compareLines(a, b api.Line) int {
	for _, pair := range [][2]api.Rat{{a.From[0], b.From[0]}, {a.From[1], b.From[1]}, {a.To[0], b.To[0]}, {a.To[1], b.To[1]}} {
		if c := sure(space.Compare(pair[0], pair[1])); c != 0 {
			return c
		}
	}
	switch {
	case a.Hidden == b.Hidden:
		return 0
	case b.Hidden:
		return -1
	}
	return 1
}
