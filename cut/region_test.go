package cut_test

import (
	"slices"
	"testing"

	"trunnel/api"
	"trunnel/cut"
	"trunnel/joint"
	"trunnel/solid"
	"trunnel/space"
)

// P5.1, Region and Opening

func TestRegions(t *testing.T) {
	octagon := api.Body{
		half(-1, 0, -1, "-11/2"), half(-1, 0, 0, "-4"), half(-1, 0, 1, "-3/2"), half(0, -1, 0, "0"), half(0, 0, -1, "-1"),
		half(0, 0, 1, "3"), half(0, 1, 0, "4"), half(1, 0, -1, "9/2"), half(1, 0, 0, "6"), half(1, 0, 1, "17/2"),
	}
	all := block("0", "0", "0", "10", "4", "4")
	for _, row := range []struct {
		what    string
		c       api.Cut
		region  api.Solid
		opening api.Vec
	}{
		{"a saw", made("saw", "top", "1", "0", "0", "8"), api.Solid{block("8", "0", "0", "10", "4", "4")}, api.Vec{"0", "0", "8"}},
		{"a saw on end", made("saw", "end", "1", "0", "0", "8"), api.Solid{block("8", "0", "0", "10", "4", "4")}, api.Vec{"16", "0", "0"}},
		{"a saw on start", made("saw", "start", "1", "0", "0", "8"), api.Solid{block("8", "0", "0", "10", "4", "4")}, origin()},
		{"a saw on bottom", made("saw", "bottom", "1", "0", "0", "8"), api.Solid{block("8", "0", "0", "10", "4", "4")}, api.Vec{"0", "0", "-8"}},
		{"a saw on left", made("saw", "left", "1", "0", "0", "8"), api.Solid{block("8", "0", "0", "10", "4", "4")}, api.Vec{"0", "-8", "0"}},
		{"a saw on right", made("saw", "right", "1", "0", "0", "8"), api.Solid{block("8", "0", "0", "10", "4", "4")}, api.Vec{"0", "8", "0"}},
		{"a saw from the start", made("saw", "start", "-1/2", "0", "0", "-1"), api.Solid{block("0", "0", "0", "2", "4", "4")}, api.Vec{"-16", "0", "0"}},
		{"a slanting saw", made("saw", "top", "1", "0", "1", "12"), api.Solid{{half(-1, 0, -1, "-12"), half(0, -1, 0, "0"), half(0, 0, 1, "4"), half(0, 1, 0, "4"), half(1, 0, 0, "10")}}, api.Vec{"0", "0", "8"}},
		{"a saw of all", made("saw", "top", "1", "0", "0", "0"), api.Solid{all}, api.Vec{"0", "0", "40"}},
		{"a saw of nothing", made("saw", "top", "1", "0", "0", "10"), nil, origin()},
		{"a saw along the top", made("saw", "top", "0", "0", "1", "3"), api.Solid{block("0", "0", "3", "10", "4", "4")}, api.Vec{"0", "0", "40"}},
		{"a saw that reaches an edge of the top", made("saw", "top", "0", "1", "-1", "0"), api.Solid{{half(-1, 0, 0, "0"), half(0, -1, 1, "0"), half(0, 0, -1, "0"), half(0, 1, 0, "4"), half(1, 0, 0, "10")}}, origin()},
		{"a slot", made("slot", "top", "2", "4", "0", "4", "3", "4"), api.Solid{block("2", "0", "3", "4", "4", "4")}, api.Vec{"0", "0", "8"}},
		{"a slot that sticks out", made("slot", "left", "2", "4", "-1", "1", "1", "3"), api.Solid{block("2", "0", "1", "4", "1", "3")}, api.Vec{"0", "-4", "0"}},
		{"a slot below the top", made("slot", "top", "2", "4", "0", "4", "2", "7/2"), api.Solid{block("2", "0", "2", "4", "4", "7/2")}, origin()},
		{"a slot inside", made("slot", "bottom", "1", "2", "1", "3", "1/2", "3"), api.Solid{block("1", "1", "1/2", "2", "3", "3")}, origin()},
		{"a slot beside", made("slot", "end", "10", "12", "0", "4", "0", "4"), nil, origin()},
		{"a slot of all", made("slot", "end", "-1", "11", "-1", "5", "-1", "5"), api.Solid{all}, api.Vec{"16", "0", "0"}},
		{"a bore", made("bore", "left", "5", "2", "1", "-1", "9"), api.Solid{octagon}, api.Vec{"0", "-7/2", "0"}},
		{"a bore on right", made("bore", "right", "5", "2", "1", "-1", "9"), api.Solid{octagon}, api.Vec{"0", "7/2", "0"}},
		{"a bore on top", made("bore", "top", "5", "2", "1", "-1", "9"), api.Solid{octagon}, origin()},
		{"a blind bore", made("bore", "right", "5", "2", "1", "3", "5"), sure(solid.Cut(api.Solid{octagon}, half(0, -1, 0, "-3"))), api.Vec{"0", "7/2", "0"}},
		{"a bore inside", made("bore", "right", "5", "2", "1", "1", "3"), sure(solid.Cut(sure(solid.Cut(api.Solid{octagon}, half(0, -1, 0, "-1"))), half(0, 1, 0, "3"))), origin()},
		{"an empty pocket", made("pocket", "top"), api.Solid{all}, api.Vec{"0", "0", "40"}},
		{"a pocket", made("pocket", "top", "1", "0", "0", "1", "0", "0", "-1", "-3"), api.Solid{block("0", "0", "3", "1", "4", "4")}, api.Vec{"0", "0", "4"}},
		{"a pocket of one", made("pocket", "bottom", "2", "0", "0", "1"), api.Solid{block("0", "0", "0", "1/2", "4", "4")}, api.Vec{"0", "0", "-2"}},
		{"a pocket of nothing", made("pocket", "top", "1", "0", "0", "1", "-1", "0", "0", "-1"), nil, origin()},
		{"a pocket of corners", made("pocket", "end", "-1", "-1", "-1", "-17"), api.Solid{{half(-1, -1, -1, "-17"), half(0, 0, 1, "4"), half(0, 1, 0, "4"), half(1, 0, 0, "10")}}, api.Vec{"1/2", "0", "0"}},
	} {
		region, e := cut.Region(beam(), row.c)
		want(t, "Region of "+row.what, region, e, row.region, api.OK)
		opening, e := cut.Opening(beam(), row.c)
		want(t, "Opening of "+row.what, opening, e, row.opening, api.OK)
	}
}

// pointsNear returns points round a member, those of its surface and inside among them.
func (s source) pointsNear(m api.Member, n int) []api.Vec {
	points := make([]api.Vec, n)
	for i := range points {
		points[i] = sure(space.Place(m.Frame, s.vec(-1, 5)))
	}
	return points
}

// pegOf returns the peg with the numbers of a bore.
func pegOf(m api.Member, c api.Cut) api.Solid {
	other := stick("other", origin(), "1", "1", "1")
	return sure(joint.Peg(timbers([]api.Member{m, other}, tie("peg", m.Name, "other", c.Numbers...)), 0))
}

func TestRegionsOfAnyCuts(t *testing.T) {
	s := newSource(2)
	inside := map[string]int{}
	for range 150 {
		m, c := s.member("M"), s.cut(6)
		region, e := cut.Region(m, c)
		want(t, "Region of a "+c.Kind, region, e, sure(regionOf(m, c)), api.OK)
		opening, e := cut.Opening(m, c)
		want(t, "Opening of a "+c.Kind, opening, e, openingOf(m, c), api.OK)
		for _, p := range s.pointsNear(m, 20) {
			side := sideOf(m, c, p)
			if side == 0 && len(region) == 0 {
				side = 1 // what has no interior points is left out
			}
			want(t, "the place of a point in a "+c.Kind, sure(solid.Position(region, p)), api.OK, -side, api.OK)
			if side < 0 {
				inside[c.Kind]++
			}
		}
		if c.Kind == "bore" {
			of := sure(solid.And(sure(joint.Blank(m)), pegOf(m, c)))
			want(t, "the region of a bore and the peg", sure(solid.Same(region, of)), api.OK, true, api.OK)
		}
	}
	if len(inside) < 4 {
		t.Errorf("points were inside of %v alone", inside)
	}
}

// bevels returns the fours of a pocket whose half-spaces take one slice after another from the edge of P at its end
// and its top: all of them are facets.
func bevels(n int) []api.Rat {
	var numbers []api.Rat
	for i := range n {
		numbers = append(numbers, bevel(i)...)
	}
	return numbers
}

// bevel returns the numbers of the half-space behind slice i, below which the edge of P at its end and its top is left.
func bevel(i int) []api.Rat {
	// The planes touch the parabola 4 - z = (x - 6)^2 / 8 where x = 6 + u, with 4 - z <= 2.
	u := sure(space.Of(i+1, 10))
	slope := sure(space.Div(u, "4"))
	return []api.Rat{slope, "0", "1", sum("4", sure(space.Mul(slope, "6")), sure(space.Div(sure(space.Mul(u, u)), "8")))}
}

// stretched returns a member in whose frame some half-spaces of coordinates have no form in space.
func stretched() api.Member {
	m := post()
	m.Frame.X, m.Frame.Z, m.Size[2] = api.Vec{"0", "0", "2"}, api.Vec{"0", "1000000000", "0"}, "1/500000000"
	return m
}

// wrongRegions returns members with cuts whose regions have errors, or not.
func wrongRegions() []struct {
	what string
	m    api.Member
	c    api.Cut
	e    api.Errno
} {
	steep := []api.Rat{"1000000000", "1", "0", "1"}
	return []struct {
		what string
		m    api.Member
		c    api.Cut
		e    api.Errno
	}{
		{"a steep saw", beam(), made("saw", "top", "999999999", "1", "0", "1"), api.OK},
		{"a saw that is too steep", beam(), made("saw", "top", steep...), api.ErrLarge},
		{"a saw with a great denominator", beam(), made("saw", "top", "1/1000000000", "0", "1", "1"), api.ErrLarge},
		{"a saw with large numbers in one direction", beam(), made("saw", "top", "0", digits(600), "0", digits(600)), api.OK},
		{"a saw with a large d", beam(), made("saw", "top", "1/7", "0", "0", digits(600)), api.ErrLarge},
		{"a saw that is too steep in space", stretched(), made("saw", "top", "2", "0", "1", "1"), api.ErrLarge},
		{"a saw that is too steep in coordinates alone", stretched(), made("saw", "top", "1", "0", "1000000000", "1"), api.ErrLarge},
		{"a saw in a stretched frame", stretched(), made("saw", "top", "1", "1", "0", "1"), api.OK},
		{"a pocket that is too steep", beam(), made("pocket", "top", slices.Concat([]api.Rat{"1", "0", "0", "1"}, steep)...), api.ErrLarge},
		{"a pocket of nothing that is too steep", beam(), made("pocket", "top", slices.Concat([]api.Rat{"1", "0", "0", "-1"}, steep)...), api.ErrLarge},
		{"a slot with large numbers", beam(), made("slot", "top", "-"+digits(600), "1", "0", digits(600), "0", "1"), api.OK},
		{"a slot too far away", stick("far", api.Vec{small(), "0", "0"}, "1", "1", "1"), made("slot", "top", "0", smaller(), "0", "1", "0", "1"), api.ErrLarge},
		{"a bore with large numbers", beam(), made("bore", "left", "1"+zeros(599), "0", "1", "0", "1"), api.OK},
		{"a bore with large sums", beam(), made("bore", "left", digits(600), digits(600), "1", "0", "1"), api.ErrLarge},
		{"a bore with large differences", beam(), made("bore", "left", small(), "0", smaller(), "0", "1"), api.ErrLarge},
		{"a bore with a large y", stick("far", api.Vec{"0", small(), "0"}, "1", "1", "1"), made("bore", "left", "1", "1", "1", "0", smaller()), api.ErrLarge},
		{"26 bevels", beam(), made("pocket", "bottom", bevels(26)...), api.OK},
		{"27 bevels", beam(), made("pocket", "bottom", bevels(27)...), api.ErrMany},
		{"an error of a half-space ahead of that of Cut", beam(), made("pocket", "bottom", slices.Concat(bevels(26), steep, bevel(26))...), api.ErrLarge},
		{"an error of a half-space behind that of Cut", beam(), made("pocket", "bottom", slices.Concat(bevels(27), steep)...), api.ErrMany},
		{"64 half-spaces", beam(), made("pocket", "bottom", slices.Repeat([]api.Rat{"1", "0", "0", "9"}, 64)...), api.OK},
	}
}

func TestErrorsOfRegions(t *testing.T) {
	for _, row := range wrongRegions() {
		wantError(t, "CheckCut of "+row.what, cut.CheckCut(row.c), api.OK)
		wantError(t, "CheckMember for "+row.what, joint.CheckMember(row.m), api.OK)
		region, e := cut.Region(row.m, row.c)
		wantError(t, "Region of "+row.what, e, row.e)
		opening, e := cut.Opening(row.m, row.c)
		wantError(t, "Opening of "+row.what, e, row.e)
		if row.e != api.OK {
			want(t, "Region of "+row.what, region, row.e, nil, row.e)
			want(t, "Opening of "+row.what, opening, row.e, api.Vec{}, row.e)
			continue
		}
		want(t, "Region of "+row.what, region, api.OK, sure(regionOf(row.m, row.c)), api.OK)
	}
}

func TestLargeOpenings(t *testing.T) {
	m := stick("thin", origin(), "10", small(), small())
	for _, face := range names() {
		wanted := api.OK
		if face == "start" || face == "end" {
			wanted = api.ErrLarge
		}
		opening, e := cut.Opening(m, made("pocket", face))
		wantError(t, "Opening of all of a thin member on "+face, e, wanted)
		if e != api.OK {
			want(t, "Opening of all of a thin member on "+face, opening, e, api.Vec{}, e)
		}
		_, e = cut.Region(m, made("pocket", face))
		wantError(t, "Region of all of a thin member on "+face, e, api.OK)
	}
	opening, e := cut.Opening(m, made("saw", "top", "1", "0", "0", "8"))
	want(t, "Opening of a part of a thin member", opening, e, api.Vec{"0", "0", sure(space.Mul("2", small()))}, api.OK)
	// An opening whose area has few digits, though those of its sides have many.
	large := "1" + zeros(400)
	opening, e = cut.Opening(stick("long", origin(), large+"1", "1", small()), made("slot", "top", "0", large, "-1", "2", "-1", "1"))
	want(t, "Opening of a long part", opening, e, api.Vec{"0", "0", large}, api.OK)
}
