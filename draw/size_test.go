package draw_test

import (
	"slices"
	"testing"

	"trunnel/api"
	"trunnel/draw"
	"trunnel/solid"
	"trunnel/space"
)

// The errors of the size of results: ErrLarge of each function, and ErrMany of P9.2. What is on the way has no limit.

// below returns the number 1 / x.
func below(x api.Rat) api.Rat { return "1/" + x }

// fits is OK for a result that has few enough digits.
func fits(is bool) api.Errno {
	if is {
		return api.OK
	}
	return api.ErrLarge
}

// along returns a view of the length of Right, and that of Up, which lead as those from the front.
func along(right, up api.Rat) api.View {
	return api.View{Origin: vec("0 0 0"), Right: api.Vec{right, "0", "0"}, Up: api.Vec{"0", "0", up}}
}

// spread returns the frame whose axes are so long.
func spread(x api.Rat) api.Frame {
	return api.Frame{Origin: vec("0 0 0"), X: api.Vec{x, "0", "0"}, Y: api.Vec{"0", x, "0"}, Z: api.Vec{"0", "0", x}}
}

// block returns the box from the origin to a corner.
func block(x, y, z api.Rat) api.Solid {
	return api.Solid{sure(solid.Box(plain(vec("0 0 0")), api.Vec{x, y, z}))}
}

func TestLargePlaces(t *testing.T) {
	for _, row := range []struct {
		v        api.View
		p        api.Vec
		place, d bool // whether both results have few enough digits
	}{
		{along("1/10", "10"), api.Vec{ten(599), "0", "0"}, true, true},
		{along("1/10", "10"), api.Vec{ten(600), "0", "0"}, false, true},
		{along("1/10", "10"), api.Vec{"-" + ten(599), "0", "0"}, true, true},
		{along("1/10", "10"), api.Vec{"-" + ten(600), "0", "0"}, false, true},
		{along("1/10", "10"), api.Vec{"0", "0", below(ten(599))}, true, true},
		{along("1/10", "10"), api.Vec{"0", "0", below(ten(600))}, false, true},
		{along("1/10", "1"), api.Vec{"0", ten(599), "0"}, true, true},
		{along("1/10", "1"), api.Vec{"0", ten(600), "0"}, true, false},
		{along("10", "1"), api.Vec{"0", below(ten(599)), "0"}, true, true},
		{along("10", "1"), api.Vec{"0", below(ten(600)), "0"}, true, false},
		{along(ten(600), ten(600)), api.Vec{ten(600), ten(600), ten(600)}, true, true},
		{along(ten(600), ten(600)), api.Vec{ten(600), "1", ten(600)}, true, false},
		{along(below(ten(600)), ten(600)), api.Vec{below(ten(600)), nines(600), nines(600)}, true, true},
	} {
		place, e := draw.Place(row.v, row.p)
		wantKind(t, "Place", place, e, fits(row.place))
		depth, e := draw.Depth(row.v, row.p)
		wantKind(t, "Depth", depth, e, fits(row.d))
	}
	place, e := draw.Place(along(ten(600), nines(600)), api.Vec{ten(600), "0", nines(600)})
	want(t, "Place on a large paper", place, e, [2]api.Rat{"1", "1"}, api.OK)
}

func TestLargeViews(t *testing.T) {
	for _, row := range []struct {
		v  api.View
		f  api.Frame
		is bool
	}{
		{along(ten(599), ten(599)), spread("10"), true},
		{along(ten(600), "1"), spread("10"), false},
		{along("1", ten(600)), spread("10"), false},
		{along(below(ten(599)), below(ten(599))), spread("1/10"), true},
		{along(below(ten(600)), "1"), spread("1/10"), false},
		{along("1", below(ten(600))), spread("1/10"), false},
		{api.View{Origin: api.Vec{"0", ten(599), "0"}, Right: vec("1 0 0"), Up: vec("0 0 1")}, spread("10"), true},
		{api.View{Origin: api.Vec{"0", ten(600), "0"}, Right: vec("1 0 0"), Up: vec("0 0 1")}, spread("10"), false},
		{along(below(ten(600)), below(ten(600))), spread(ten(600)), true},
	} {
		v, e := draw.MoveView(row.v, row.f)
		wantKind(t, "MoveView", v, e, fits(row.is))
	}
	uneven := spread(ten(600))
	uneven.Z[2] = nines(600)
	v, e := draw.MoveView(along(ten(600), "1"), uneven)
	wantKind(t, "MoveView by a frame with large axes of other lengths", v, e, api.ErrFrame)
	for _, row := range []struct {
		size api.Vec
		f    api.Frame
		is   bool
	}{
		{api.Vec{"1", "1", ten(599)}, spread("10"), true},
		{api.Vec{"1", "1", ten(600)}, spread("10"), false},
		{api.Vec{"1", ten(599), "1"}, spread("10"), true},
		{api.Vec{"1", ten(600), "1"}, spread("10"), false},
		{api.Vec{ten(600), "1", "1"}, spread("10"), true},
		{api.Vec{"1", below(ten(600)), below(ten(600))}, spread("1/10"), false},
		{api.Vec{"1", below(ten(600)), below(ten(600))}, spread(nines(600)), true},
	} {
		l, e := draw.Faces(row.f, row.size)
		wantKind(t, "Faces", l, e, fits(row.is))
	}
}

// turnedPrism returns a prism over a square between diagonals, one corner of which has x = (a + b) / 2.
func turnedPrism(a, b api.Rat) api.Solid {
	return api.Solid{{half(-1, -1, 0, "0"), half(-1, 1, 0, "0"), half(0, 0, -1, "0"), half(0, 0, 1, "1"), half(1, -1, 0, b), half(1, 1, 0, a)}}
}

// cutInside returns the box B, divided by a plane that crosses edges at points with more than 600 digits.
func cutInside() api.Solid { return divided(near(), half(17, 1, 0, nines(600)+"/"+ten(600))) }

func TestLargeEdges(t *testing.T) {
	for _, row := range []struct {
		a  api.Rat
		is bool
	}{{below(ten(599)), true}, {below(ten(600)), false}} {
		s := turnedPrism(row.a, "1/7")
		l, e := draw.Edges(s)
		wantKind(t, "Edges", l, e, fits(row.is))
		lines, e := draw.Lines([]api.Solid{s}, front())
		wantKind(t, "Lines", lines, e, fits(row.is))
		o, e := draw.Outline(s, top())
		wantKind(t, "Outline", o, e, fits(row.is))
		c, e := draw.Chain(s, vec("1 0 0"))
		wantKind(t, "Chain", c, e, fits(row.is))
		is, e := draw.IsDrawing([]api.Solid{s}, front(), nearLines())
		want(t, "IsDrawing", is, e, false, api.OK)
		_, e = draw.Hidden([]api.Solid{s}, front(), vec("0 0 0"))
		wantError(t, "Hidden", e, api.OK)
	}
}

func TestLargeCornersInside(t *testing.T) {
	s := cutInside()
	l, e := draw.Edges(s)
	want(t, "Edges", l, e, edgesOfBox("2", "3", "4"), api.OK)
	lines, e := draw.Lines([]api.Solid{s}, front())
	want(t, "Lines", lines, e, nearLines(), api.OK)
	is, e := draw.IsDrawing([]api.Solid{s}, front(), nearLines())
	want(t, "IsDrawing", is, e, true, api.OK)
	o, e := draw.Outline(s, front())
	want(t, "Outline", o, e, places("0 0, 2 0, 2 4, 0 4"), api.OK)
	c, e := draw.Chain(s, vec("0 0 2"))
	want(t, "Chain", c, e, rats("0 2"), api.OK)
	c, e = draw.Chain(s, vec("1 0 0"))
	want(t, "Chain along the large numbers", c, e, nil, api.ErrLarge)
	hidden, e := draw.Hidden([]api.Solid{s}, front(), vec("1/2 5 1"))
	want(t, "Hidden", hidden, e, true, api.OK)
}

func TestLargeLines(t *testing.T) {
	for _, row := range []struct {
		s  api.Solid
		v  api.View
		is bool
	}{
		{block(ten(599), "1", "1"), along("1/10", "1"), true},
		{block(ten(600), "1", "1"), along("1/10", "1"), false},
		{block("1", "1", ten(599)), along("1", "1/10"), true},
		{block("1", "1", ten(600)), along("1", "1/10"), false},
		{block("1", "1", below(ten(599))), along("1", "10"), true},
		{block("1", "1", below(ten(600))), along("1", "10"), false},
		{block("1", ten(600), "1"), along("10", "1"), true},
		{block(nines(600), "1", nines(600)), along(nines(600), nines(600)), true},
	} {
		l, e := draw.Lines([]api.Solid{row.s}, row.v)
		wantKind(t, "Lines", l, e, fits(row.is))
		o, e := draw.Outline(row.s, row.v)
		wantKind(t, "Outline", o, e, fits(row.is))
		is, e := draw.IsDrawing([]api.Solid{row.s}, row.v, l)
		want(t, "IsDrawing", is, e, row.is, api.OK)
	}
	l, e := draw.Lines([]api.Solid{block(nines(600), "1", nines(600))}, along(nines(600), nines(600)))
	want(t, "Lines on a large paper", l, e, lines("v 0 0 0 1, v 0 0 1 0, v 0 1 1 1, v 1 0 1 1"), api.OK)
}

func TestLargeMeasures(t *testing.T) {
	triangle := func(x, y api.Rat) [][2]api.Rat { return [][2]api.Rat{{"0", "0"}, {x, "0"}, {"0", y}} }
	more := sure(space.Add(ten(600), "1"))
	for _, row := range []struct {
		polygon [][2]api.Rat
		wanted  api.Rat
		e       api.Errno
	}{
		{triangle(ten(600), "2"), ten(600), api.OK},
		{triangle(ten(600), "20"), "", api.ErrLarge},
		{triangle("-"+ten(600), "2"), "-" + ten(600), api.OK},
		{triangle("-"+ten(600), "20"), "", api.ErrLarge},
		{triangle(below(ten(600)), "2"), below(ten(600)), api.OK},
		{triangle(below(ten(600)), "1/5"), "", api.ErrLarge},
		{triangle(ten(600), below(ten(600))), "1/2", api.OK},
		{[][2]api.Rat{{"0", "0"}, {more, ten(600)}, {ten(600), ten(600)}}, "5" + ten(599)[1:], api.OK},
	} {
		a, e := draw.Area(row.polygon)
		want(t, "Area", a, e, row.wanted, row.e)
	}
	for _, row := range []struct {
		s      api.Solid
		v      api.View
		wanted api.Rat
		e      api.Errno
	}{
		{block(ten(600), "1", "1"), along("1", "1"), ten(600), api.OK},
		{block(ten(600), "1", "10"), along("1", "1"), "", api.ErrLarge},
		{block("1", "1", "1"), along(ten(600), "1"), below(ten(600)), api.OK},
		{block("1", "1", "1"), along(ten(600), "10"), "", api.ErrLarge},
		{block(ten(600), ten(600), nines(600)), along(ten(600), nines(600)), "1", api.OK},
	} {
		a, e := draw.Shadow(row.s[0], row.v)
		want(t, "Shadow", a, e, row.wanted, row.e)
	}
}

func TestLargeDimensions(t *testing.T) {
	for _, row := range []struct {
		x, d   api.Rat
		wanted string
		e      api.Errno
	}{
		{ten(599), "1/10", "0 " + string(ten(600)), api.OK},
		{ten(600), "1/10", "", api.ErrLarge},
		{below(ten(599)), "10", "0 1/" + string(ten(600)), api.OK},
		{below(ten(600)), "10", "", api.ErrLarge},
		{ten(600), ten(600), "0 1", api.OK},
	} {
		c, e := draw.Chain(block(row.x, "1", "1"), api.Vec{row.d, "0", "0"})
		want(t, "Chain", c, e, rats(row.wanted), row.e)
	}
	for _, row := range []struct {
		chain  []api.Rat
		wanted string
		e      api.Errno
	}{
		{[]api.Rat{"-" + nines(600), "0"}, string(nines(600)), api.OK},
		{[]api.Rat{"-" + nines(600), "1"}, "", api.ErrLarge},
		{[]api.Rat{"-" + nines(600), "0", nines(600)}, string(nines(600)) + " " + string(nines(600)), api.OK},
		{[]api.Rat{below(ten(600)), "1/11"}, "", api.ErrLarge},
		{[]api.Rat{below(ten(599)), "1/11"}, string(sure(space.Sub("1/11", below(ten(599))))), api.OK},
		{[]api.Rat{"-" + nines(600), nines(600), "0"}, "", api.ErrOrder},
	} {
		l, e := draw.Steps(row.chain)
		want(t, "Steps", l, e, rats(row.wanted), row.e)
	}
}

// grid returns solids of so many cubes and some other bodies, whose places are apart from each other in the view with it.
// Each body is drawn with as many lines as it has edges.
func grid(cubes int, others ...api.Body) ([]api.Solid, api.View) {
	v := view("0 0 0", "3 -1 0", "1 3 7")
	var all api.Solid
	for _, b := range slices.Concat(slices.Repeat(cube(), cubes), others) {
		i, j := integer(len(all)%20), integer(len(all)/20)
		at := sure(space.AddVec(sure(space.Scale(i, v.Right)), sure(space.Scale(j, v.Up))))
		all = append(all, sure(solid.Move(api.Solid{b}, plain(at)))...)
	}
	return slices.Collect(slices.Chunk(all, 6)), v
}

func TestManyLines(t *testing.T) {
	prism, pyramid := hull("0 0 0, 1 0 0, 0 1 0, 0 0 1, 1 0 1, 0 1 1"), hull("0 0 0, 1 0 0, 1 1 0, 0 1 0, 1/2 1/3 1")
	solids, v := grid(340, pyramid, pyramid)
	l, e := draw.Lines(solids, v)
	want(t, "the number of lines", len(l), e, 4096, api.OK)
	wantError(t, "CheckLines of 4096 lines", draw.CheckLines(l), api.OK)
	is, e := draw.IsDrawing(solids, v, l)
	want(t, "IsDrawing of 4096 lines", is, e, true, api.OK)
	solids, v = grid(340, pyramid, prism)
	other, e := draw.Lines(solids, v)
	want(t, "Lines of more solids", other, e, nil, api.ErrMany)
	is, e = draw.IsDrawing(solids, v, l)
	want(t, "IsDrawing of solids with 4097 lines", is, e, false, api.OK)
	large := append(solids, block(ten(600), ten(600), ten(600)))
	v.Right, v.Up = sure(space.Scale("1/10", v.Right)), sure(space.Scale("1/10", v.Up))
	other, e = draw.Lines(large, v)
	want(t, "Lines of more solids, one of which is large", other, e, nil, api.ErrMany)
}
