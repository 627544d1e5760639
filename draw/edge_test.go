package draw_test

import (
	"slices"
	"testing"

	"trunnel/api"
	"trunnel/draw"
	"trunnel/solid"
)

// P9.2: Edges.

// edgesOfBox returns the twelve edges of the box from the origin to a corner.
func edgesOfBox(x, y, z string) [][2]api.Vec {
	return [][2]api.Vec{
		edge("0 0 0", "0 0 "+z), edge("0 0 0", "0 "+y+" 0"), edge("0 0 0", x+" 0 0"), edge("0 0 "+z, "0 "+y+" "+z),
		edge("0 0 "+z, x+" 0 "+z), edge("0 "+y+" 0", "0 "+y+" "+z), edge("0 "+y+" 0", x+" "+y+" 0"), edge("0 "+y+" "+z, x+" "+y+" "+z),
		edge(x+" 0 0", x+" 0 "+z), edge(x+" 0 0", x+" "+y+" 0"), edge(x+" 0 "+z, x+" "+y+" "+z), edge(x+" "+y+" 0", x+" "+y+" "+z),
	}
}

func TestEdges(t *testing.T) {
	skewed := half(1, 2, 0, "3")
	for _, row := range []struct {
		what   string
		s      api.Solid
		wanted [][2]api.Vec
	}{
		{"nothing", nil, nil},
		{"a box", near(), edgesOfBox("2", "3", "4")},
		{"a box in two halves", boxes("0 0 0 1 3 4, 1 0 0 2 3 4"), edgesOfBox("2", "3", "4")},
		{"a box in two halves, in the other order", boxes("1 0 0 2 3 4, 0 0 0 1 3 4"), edgesOfBox("2", "3", "4")},
		{"a box in five parts", boxes("0 0 0 1 2 4, 1 0 0 2 1 4, 1 1 0 2 3 1, 1 1 1 2 3 4, 0 2 0 1 3 4"), edgesOfBox("2", "3", "4")},
		{"a box in two wedges", divided(near(), skewed), edgesOfBox("2", "3", "4")},
		{"a box in four wedges", divided(divided(near(), skewed), half(-1, 1, 3, "1")), edgesOfBox("2", "3", "4")},
		{"eight cubes", boxes("0 0 0 1 1 1, 1 0 0 2 1 1, 0 1 0 1 2 1, 1 1 0 2 2 1, 0 0 1 1 1 2, 1 0 1 2 1 2, 0 1 1 1 2 2, 1 1 1 2 2 2"), edgesOfBox("2", "2", "2")},
		{"a tetrahedron", api.Solid{hull("0 0 0, 1 0 0, 0 1 0, 0 0 1")}, [][2]api.Vec{
			edge("0 0 0", "0 0 1"), edge("0 0 0", "0 1 0"), edge("0 0 0", "1 0 0"), edge("0 0 1", "0 1 0"), edge("0 0 1", "1 0 0"), edge("0 1 0", "1 0 0"),
		}},
	} {
		l, e := draw.Edges(row.s)
		want(t, "Edges of "+row.what, l, e, row.wanted, api.OK)
	}
}

func TestEdgesOfUnions(t *testing.T) {
	for _, row := range []struct {
		what     string
		s        api.Solid
		count    int
		from, to string
		wanted   bool
	}{
		{"flush fronts", append(near(), box("2 0 0 3 1 1")), 21, "2 0 0", "2 0 1", false},
		{"flush fronts", append(near(), box("2 0 0 3 1 1")), 21, "2 1 0", "2 1 1", true},
		{"flush fronts", append(near(), box("2 0 0 3 1 1")), 21, "2 0 1", "2 0 4", true},
		{"flush fronts", append(near(), box("2 0 0 3 1 1")), 21, "0 0 0", "3 0 0", true},
		{"flush fronts", append(near(), box("2 0 0 3 1 1")), 21, "2 0 0", "2 1 0", false},
		{"a box within a face", append(near(), box("2 1 1 3 2 2")), 24, "2 1 1", "2 1 2", true},
		{"three of four quarters", boxes("0 0 0 1 1 1, 1 0 0 2 1 1, 0 1 0 1 2 1"), 18, "1 1 0", "1 1 1", true},
		{"three of four quarters", boxes("0 0 0 1 1 1, 1 0 0 2 1 1, 0 1 0 1 2 1"), 18, "1 0 0", "1 0 1", false},
		{"two of four quarters, across", boxes("0 0 0 1 1 1, 1 1 0 2 2 1"), 19, "1 1 0", "1 1 1", true},
		{"two of four quarters, across", boxes("0 0 0 1 1 1, 1 1 0 2 2 1"), 19, "0 1 0", "2 1 0", true},
		{"two of four quarters, beside each other", boxes("0 0 0 1 1 1, 1 0 0 2 1 1"), 12, "1 1 0", "1 1 1", false},
		{"all quarters", boxes("0 0 0 1 1 1, 1 0 0 2 1 1, 0 1 0 1 2 1, 1 1 0 2 2 1"), 12, "1 1 0", "1 1 1", false},
		{"cubes that touch in a corner", boxes("0 0 0 1 1 1, 1 1 1 2 2 2"), 21, "0 1 1", "2 1 1", true},
		{"cubes apart on a line", boxes("0 0 0 1 1 1, 2 0 0 3 1 1"), 24, "0 0 0", "1 0 0", true},
		{"cubes that touch in a half of a face", boxes("0 0 0 2 2 2, 2 1 0 4 3 2"), 24, "2 1 0", "2 1 2", true},
		{"a wedge that goes on a face", append(cube(), hull("1 0 0, 1 1 0, 2 0 0, 1 0 1, 1 1 1, 2 0 1")), 12, "1 1 0", "1 1 1", true},
		{"a wedge in a corner", append(boxes("0 0 0 3 1 1, 0 1 0 1 3 1"), hull("1 1 0, 2 1 0, 1 2 0, 1 1 1, 2 1 1, 1 2 1")), 21, "1 1 0", "1 1 1", false},
		{"a wedge in a corner", append(boxes("0 0 0 3 1 1, 0 1 0 1 3 1"), hull("1 1 0, 2 1 0, 1 2 0, 1 1 1, 2 1 1, 1 2 1")), 21, "1 2 0", "1 2 1", true},
	} {
		l, e := draw.Edges(row.s)
		want(t, "the number of edges of "+row.what, len(l), e, row.count, api.OK)
		want(t, "an edge of "+row.what+" from "+row.from+" to "+row.to, slices.Contains(l, edge(row.from, row.to)), api.OK, row.wanted, api.OK)
	}
}

func TestEdgesOfAnySolids(t *testing.T) {
	s := newSource(4)
	for range 150 {
		one := s.solid()
		l, e := draw.Edges(one)
		want(t, "Edges", l, e, modelOf(one).edges(), api.OK)
	}
	for range 30 {
		one := sure(solid.Move(s.cubes(), s.rotation()))
		l, e := draw.Edges(one)
		want(t, "Edges of turned cubes", l, e, modelOf(one).edges(), api.OK)
	}
}

// The wedges round a line, with all bodies that are round it or only some of them.
func TestEdgesRoundALine(t *testing.T) {
	rim := []string{"2 0", "2 1", "2 2", "1 2", "0 2", "-1 2", "-2 2", "-2 1", "-2 0", "-2 -1", "-2 -2", "-1 -2", "0 -2", "1 -2", "2 -2", "2 -1"}
	s := newSource(5)
	for range 200 {
		var all api.Solid
		for i := 0; i < len(rim); {
			next := min(i+s.from(1, 4), len(rim))
			if s.Intn(4) > 0 {
				a, b := rim[i], rim[next%len(rim)]
				all = append(all, hull("0 0 0, "+a+" 0, "+b+" 0, 0 0 3, "+a+" 3, "+b+" 3"))
			}
			i = next
		}
		l, e := draw.Edges(all)
		want(t, "Edges round a line", l, e, modelOf(all).edges(), api.OK)
	}
}
