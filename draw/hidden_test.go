package draw_test

import (
	"testing"

	"trunnel/api"
	"trunnel/draw"
	"trunnel/solid"
	"trunnel/space"
)

// P9.2: Hidden.

func TestHidden(t *testing.T) {
	halves := boxes("0 0 0 2 3 1, 2 0 0 3 1 1")
	quarters := boxes("0 0 0 1 1 1, 1 0 0 2 1 1, 0 0 1 1 1 2, 1 0 1 2 1 2")
	for _, row := range []struct {
		what   string
		solids []api.Solid
		v      api.View
		p      string
		wanted bool
	}{
		{"without solids", nil, front(), "1 3 1", false},
		{"without bodies", []api.Solid{nil, {}}, front(), "1 3 1", false},
		{"behind", []api.Solid{near()}, front(), "1 3 1", true},
		{"far behind", []api.Solid{near()}, front(), "1 1000000 1", true},
		{"hardly behind the front", []api.Solid{near()}, front(), "1 1/1000000 1", true},
		{"in the middle", []api.Solid{near()}, front(), "1 3/2 2", true},
		{"at the front", []api.Solid{near()}, front(), "1 0 1", false},
		{"ahead", []api.Solid{near()}, front(), "1 -1 1", false},
		{"beside", []api.Solid{near()}, front(), "3 5 1", false},
		{"above", []api.Solid{near()}, front(), "1 5 5", false},
		{"behind the rim", []api.Solid{near()}, front(), "2 5 1", false},
		{"behind a corner", []api.Solid{near()}, front(), "2 5 4", false},
		{"hardly inside of the rim", []api.Solid{near()}, front(), "1999999/1000000 5 1", true},
		{"on a side", []api.Solid{near()}, front(), "2 1 1", false},
		{"on the top", []api.Solid{near()}, front(), "1 1 4", false},
		{"behind the second solid", []api.Solid{behind(), near()}, front(), "3/2 5 1", true},
		{"between both", []api.Solid{behind(), near()}, front(), "1/2 4 1/2", true},
		{"between both, ahead of one", []api.Solid{behind()}, front(), "1/2 4 1/2", false},
		{"behind a shared facet", []api.Solid{halves}, front(), "2 5 1/2", true},
		{"behind a facet, but not behind the shared part", []api.Solid{halves}, front(), "2 1/2 1", false},
		{"in a shared facet", []api.Solid{halves}, front(), "2 1/2 1/2", true},
		{"at the front of a shared facet", []api.Solid{halves}, front(), "2 0 1/2", false},
		{"behind the rim of a shared facet", []api.Solid{halves}, front(), "2 5 1", false},
		{"behind a facet shared by two solids", []api.Solid{halves[:1], halves[1:]}, front(), "2 5 1/2", false},
		{"behind four quarters", []api.Solid{quarters}, front(), "1 5 1", true},
		{"behind three quarters", []api.Solid{quarters[:3]}, front(), "1 5 1", false},
		{"behind two quarters across", []api.Solid{{quarters[0], quarters[3]}}, front(), "1 5 1", false},
		{"behind two quarters beside each other", []api.Solid{quarters[:2]}, front(), "1 5 1", false},
		{"behind two quarters beside each other, within", []api.Solid{quarters[:2]}, front(), "1 5 1/2", true},
		{"ahead of a shared facet that begins behind it", []api.Solid{boxes("0 0 0 1 1 1, 1 0 0 2 1 1")}, front(), "1 -1 1/2", false},
		{"behind a shared facet, and others apart", []api.Solid{boxes("0 0 0 1 1 1, 1 2 0 2 3 1")}, front(), "1 5 1/2", false},
		{"the lower corner of the cube", []api.Solid{cube()}, skew(), "1 1 0", true},
		{"the upper corner of the cube", []api.Solid{cube()}, skew(), "0 0 1", false},
		{"another corner of the cube", []api.Solid{cube()}, skew(), "1 0 0", false},
		{"from above", []api.Solid{cube()}, top(), "1/2 1/2 0", true},
		{"from above, on the top", []api.Solid{cube()}, top(), "1/2 1/2 1", false},
		{"with other lengths", []api.Solid{cube()}, view("7 7 7", "1/9 0 0", "0 5 0"), "1/2 1/2 0", true},
		{"from below", []api.Solid{cube()}, view("0 0 0", "1 0 0", "0 -1 0"), "1/2 1/2 0", false},
		{"from below", []api.Solid{cube()}, view("0 0 0", "1 0 0", "0 -1 0"), "1/2 1/2 1", true},
	} {
		is, e := draw.Hidden(row.solids, row.v, vec(row.p))
		want(t, "Hidden "+row.what+": "+row.p, is, e, row.wanted, api.OK)
	}
}

// points returns points of solids at which much may go wrong, and some others.
func (s source) points(solids []api.Solid) []api.Vec {
	var l []api.Vec
	for _, one := range solids {
		for _, b := range one {
			corners := sure(solid.Corners(b))
			p, q := corners[s.Intn(len(corners))], corners[s.Intn(len(corners))]
			l = append(l, p, sure(space.Scale("1/2", sure(space.AddVec(p, q)))))
		}
	}
	return append(l, s.vec(-2, 4), s.vec(-2, 4))
}

func TestHiddenOfAnySolids(t *testing.T) {
	s := newSource(6)
	count := map[bool]int{}
	for range 150 {
		solids, v := s.solids(3), s.view()
		scene := sceneOf(solids, v)
		for _, p := range s.points(solids) {
			for _, far := range []api.Rat{"0", "0", "1", "-7/3"} {
				away := sure(space.AddVec(p, sure(space.Scale(far, scene.toward.vec()))))
				is, e := draw.Hidden(solids, v, away)
				want(t, "Hidden", is, e, scene.hides(pointOf(away)), api.OK)
				count[is]++
			}
		}
	}
	if min(count[false], count[true]) < 200 {
		t.Errorf("too few points: %v", count)
	}
}
