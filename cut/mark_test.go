package cut_test

import (
	"slices"
	"testing"

	"trunnel/api"
	"trunnel/cut"
	"trunnel/solid"
	"trunnel/space"
)

// P5.5

// points returns the points with these coordinates.
func points(coordinates ...api.Rat) [][2]api.Rat {
	var all [][2]api.Rat
	for two := range slices.Chunk(coordinates, 2) {
		all = append(all, [2]api.Rat(two))
	}
	return all
}

func TestMarks(t *testing.T) {
	mortise := []api.Rat{"-1", "0", "0", "-9/2", "0", "-1", "0", "-1", "0", "0", "1", "2", "0", "1", "0", "3", "1", "0", "0", "11/2"}
	octagon := points("4", "3/2", "9/2", "1", "11/2", "1", "6", "3/2", "6", "5/2", "11/2", "3", "9/2", "3", "4", "5/2")
	for _, row := range []struct {
		what   string
		c      api.Cut
		points [][2]api.Rat
	}{
		{"example 3", made("pocket", "bottom", mortise...), points("9/2", "1", "11/2", "1", "11/2", "3", "9/2", "3")},
		{"example 3 on top", made("pocket", "top", mortise...), nil},
		{"a slot on top", made("slot", "top", "2", "4", "1", "2", "3", "4"), points("2", "1", "4", "1", "4", "2", "2", "2")},
		{"a slot on bottom", made("slot", "bottom", "2", "4", "1", "2", "0", "1"), points("2", "1", "4", "1", "4", "2", "2", "2")},
		{"a slot on left", made("slot", "left", "2", "4", "0", "2", "1", "3"), points("2", "1", "4", "1", "4", "3", "2", "3")},
		{"a slot on right", made("slot", "right", "2", "4", "1", "4", "1", "3"), points("2", "1", "4", "1", "4", "3", "2", "3")},
		{"a slot on start", made("slot", "start", "-1", "4", "1", "2", "1", "3"), points("1", "1", "2", "1", "2", "3", "1", "3")},
		{"a slot on end", made("slot", "end", "9", "11", "1", "2", "1", "3"), points("1", "1", "2", "1", "2", "3", "1", "3")},
		{"a slot that sticks out", made("slot", "top", "9", "11", "-1", "2", "3", "5"), points("9", "0", "10", "0", "10", "2", "9", "2")},
		{"a slot inside", made("slot", "top", "2", "4", "1", "2", "1", "2"), nil},
		{"a slot outside", made("slot", "top", "11", "12", "1", "2", "3", "4"), nil},
		{"all", made("pocket", "end"), points("0", "0", "4", "0", "4", "4", "0", "4")},
		{"a saw", made("saw", "top", "1", "0", "0", "8"), points("8", "0", "10", "0", "10", "4", "8", "4")},
		{"a saw that does not reach start", made("saw", "start", "1", "0", "0", "8"), nil},
		{"a saw that reaches an edge of start", made("saw", "start", "1", "0", "1", "4"), nil},
		{"a saw that reaches a corner of top", made("saw", "top", "1", "1", "-1", "10"), nil},
		{"a saw across a corner of top", made("saw", "top", "1", "1", "1", "16"), points("8", "4", "10", "2", "10", "4")},
		{"a saw across a corner of end", made("saw", "end", "1", "1", "1", "16"), points("2", "4", "4", "2", "4", "4")},
		{"a saw across the other corner of top", made("saw", "top", "-1", "-1", "1", "2"), points("0", "0", "2", "0", "0", "2")},
		{"a saw across most of top", made("saw", "top", "1", "-1", "1", "3"), points("0", "0", "10", "0", "10", "4", "3", "4", "0", "1")},
		{"a bore on left", made("bore", "left", "5", "2", "1", "-1", "9"), octagon},
		{"a bore on right", made("bore", "right", "5", "2", "1", "-1", "9"), octagon},
		{"a bore on top", made("bore", "top", "5", "2", "1", "-1", "9"), nil},
		{"a bore at the start", made("bore", "left", "0", "2", "1", "-1", "9"), points("0", "1", "1/2", "1", "1", "3/2", "1", "5/2", "1/2", "3", "0", "3")},
	} {
		for _, m := range []api.Member{beam(), {Name: "M", Frame: slanting().Frame, Size: beam().Size}} {
			got, e := cut.Marks(m, []api.Cut{row.c})
			want(t, "Marks of "+row.what, got, e, []cut.Mark{{Cut: 0, Face: row.c.Face, Points: row.points}}, api.OK)
		}
	}
}

// cornersOf returns the corners of the facet of a region in the face of its cut, in the own coordinates of this.
func cornersOf(m api.Member, c api.Cut) [][2]api.Rat {
	plane := planeOf(m, c.Face)
	_, own := faceOf(m, c.Face)
	var all [][2]api.Rat
	for _, b := range sure(regionOf(m, c)) {
		for i, facet := range sure(solid.Facets(b)) {
			if b[i] != plane {
				continue
			}
			for _, p := range facet {
				q := sure(space.Local(m.Frame, p))
				all = append(all, [2]api.Rat{q[own[0]], q[own[1]]})
			}
		}
	}
	return all
}

// wantOutline reports points that are not the corners of a polygon, counterclockwise from the least one on.
func wantOutline(t *testing.T, what string, got, corners [][2]api.Rat) {
	t.Helper()
	compare := func(p, q [2]api.Rat) int {
		if c := bigOf(p[0]).Cmp(bigOf(q[0])); c != 0 {
			return c
		}
		return bigOf(p[1]).Cmp(bigOf(q[1]))
	}
	sorted := slices.SortedFunc(slices.Values(got), compare)
	slices.SortFunc(corners, compare)
	want(t, "the corners of "+what, sorted, api.OK, corners, api.OK)
	if len(got) > 0 {
		want(t, "the first corner of "+what, got[0], api.OK, corners[0], api.OK)
	}
	for i, p := range got {
		q, r := got[(i+1)%len(got)], got[(i+2)%len(got)]
		less := func(a, b api.Rat) api.Rat { return sum(a, minus(b)) }
		ahead := sure(space.Mul(less(q[0], p[0]), less(r[1], q[1])))
		aside := sure(space.Mul(less(q[1], p[1]), less(r[0], q[0])))
		want(t, "a turn to the left in "+what, sure(space.Compare(ahead, aside)), api.OK, 1, api.OK)
	}
}

func TestMarksOfAnyCuts(t *testing.T) {
	s := newSource(6)
	seen := map[string]int{}
	for range 80 {
		m, l := s.member("M"), s.list(3, 6)
		marks, e := cut.Marks(m, l)
		want(t, "the count of Marks", len(marks), e, len(l), api.OK)
		for i, mark := range marks {
			want(t, "a mark", cut.Mark{Cut: mark.Cut, Face: mark.Face}, api.OK, cut.Mark{Cut: i, Face: l[i].Face}, api.OK)
			wantOutline(t, "a "+l[i].Kind+" on "+l[i].Face, mark.Points, cornersOf(m, l[i]))
			if len(mark.Points) > 0 {
				seen[mark.Face]++
			}
		}
	}
	if len(seen) < 6 {
		t.Errorf("there were marks on %v alone", seen)
	}
}

// TestMarksWithManyCorners has facets with as many corners as there may be, and some with fewer.
func TestMarksWithManyCorners(t *testing.T) {
	for n := range 27 {
		for _, face := range []string{"left", "right", "bottom", "end"} {
			c := made("pocket", face, bevels(n)...)
			if n < 26 { // it begins behind the start, and higher up there
				c.Numbers = append(c.Numbers, "-1", "0", "-1/2", "-3")
			}
			marks, e := cut.Marks(beam(), []api.Cut{c})
			wantError(t, "Marks", e, api.OK)
			wantOutline(t, "a facet with many corners on "+face, marks[0].Points, cornersOf(beam(), c))
		}
	}
}

func TestErrorsOfMarks(t *testing.T) {
	// A slanting line crosses the end of a face at the difference of two numbers.
	m := stick("M", origin(), "10", small(), "4")
	slant := made("saw", "top", "1", "1", "0", sum("5", smaller()))
	marks, e := cut.Marks(m, []api.Cut{slant})
	want(t, "Marks with large numbers", marks, e, nil, api.ErrLarge)
	slant.Face = "right"
	marks, e = cut.Marks(m, []api.Cut{slant})
	want(t, "Marks with large numbers on right", marks, e, nil, api.ErrLarge)
	slant.Face = "left"
	marks, e = cut.Marks(m, []api.Cut{slant})
	at := sum("5", smaller())
	want(t, "Marks with fewer digits", marks, e, []cut.Mark{{Face: "left", Points: points(at, "0", "10", "0", "10", "4", at, "4")}}, api.OK)
	marks, e = cut.Marks(m, []api.Cut{slant, made("saw", "end", "1", "0", "0", "8")})
	want(t, "the count of Marks", len(marks), e, 2, api.OK)
	// The corners are too far away in space to have a form, but not in coordinates.
	turned := slanting()
	turned.Frame.Y = api.Vec{"-4", "3", "0"}
	turned.Frame.Z = api.Vec{"0", "0", "1"}
	marks, e = cut.Marks(turned, []api.Cut{made("slot", "top", small(), "1", smaller(), "1", "0", "4")})
	want(t, "Marks of large corners", marks, e, []cut.Mark{{Face: "top", Points: points(small(), smaller(), "1", smaller(), "1", "1", small(), "1")}}, api.OK)
	_, e = solid.Corners(sure(cut.Region(turned, made("slot", "top", small(), "1", smaller(), "1", "0", "4")))[0])
	wantError(t, "the corners", e, api.ErrLarge)
	// Openings of any size have marks.
	thin := stick("thin", origin(), "10", small(), small())
	marks, e = cut.Marks(thin, []api.Cut{made("pocket", "end")})
	want(t, "Marks of an opening with many digits", marks, e, []cut.Mark{{Face: "end", Points: points("0", "0", small(), "0", small(), small(), "0", small())}}, api.OK)
}

func TestBevels(t *testing.T) {
	for _, row := range []struct {
		numbers []api.Rat
		bevels  []api.Rat
	}{
		{[]api.Rat{"3", "4", "0", "8"}, []api.Rat{"-3/4", "", ""}},
		{[]api.Rat{"1", "2", "-4", "8"}, []api.Rat{"-1/2", "1/4", "1/2"}},
		{[]api.Rat{"1", "0", "0", "8"}, []api.Rat{"", "", ""}},
		{[]api.Rat{"0", "1", "0", "8"}, []api.Rat{"0", "", ""}},
		{[]api.Rat{"0", "0", "1", "8"}, []api.Rat{"", "0", "0"}},
		{[]api.Rat{"0", "-2", "3", "0"}, []api.Rat{"0", "0", "2/3"}},
		{[]api.Rat{"-1/2", "0", "-1/3", "-7"}, []api.Rat{"", "-3/2", "0"}},
		{[]api.Rat{"2", "2", "2", digits(600)}, []api.Rat{"-1", "-1", "-1"}},
		{[]api.Rat{"1000000000", "1", "0", "1"}, []api.Rat{"-1000000000", "", ""}},
		{[]api.Rat{digits(600), "1", "0", "1"}, []api.Rat{"-" + digits(600), "", ""}},
		{[]api.Rat{small(), small(), small(), "1"}, []api.Rat{"-1", "-1", "-1"}},
	} {
		for _, face := range names() {
			got, e := cut.Bevels(made("saw", face, row.numbers...))
			want(t, "Bevels", got, e, row.bevels, api.OK)
		}
	}
	large := "1" + zeros(400)
	for i, numbers := range [][]api.Rat{{large, smaller(), "0", "1"}, {large, "0", smaller(), "1"}, {"0", large, smaller(), "1"}, {large, "1", smaller(), "1"}} {
		got, e := cut.Bevels(made("saw", "top", numbers...))
		want(t, "Bevels with large numbers "+string(integer(i)), got, e, nil, api.ErrLarge)
	}
	for _, c := range []api.Cut{made("slot", "top", "0", "1", "0", "1", "0", "1"), made("bore", "left", "1", "1", "1", "0", "1"), made("pocket", "top"), made("pocket", "top", "1", "2", "3", "4")} {
		got, e := cut.Bevels(c)
		want(t, "Bevels of a "+c.Kind, got, e, nil, api.ErrKind)
	}
}
