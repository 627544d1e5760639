package draw_test

import (
	"testing"

	"trunnel/api"
	"trunnel/draw"
	"trunnel/solid"
	"trunnel/space"
)

// P9.1

func TestErrorsOfViews(t *testing.T) {
	good := front()
	for _, row := range []struct {
		what   string
		change func(v *api.View)
		e      api.Errno
	}{
		{"no change", func(v *api.View) {}, api.OK},
		{"other lengths", func(v *api.View) { v.Right, v.Up = vec("2/3 0 0"), vec("0 -7 0") }, api.OK},
		{"a skew view", func(v *api.View) { v.Right, v.Up = vec("1 2 2"), vec("2 1 -2") }, api.OK},
		{"600 digits", func(v *api.View) { v.Origin[2], v.Right[0], v.Up[2] = nines(600), "1/"+ten(600), nines(600) }, api.OK},
		{"a text that is no number in Origin", func(v *api.View) { v.Origin[2] = "x" }, api.ErrForm},
		{"a large Origin", func(v *api.View) { v.Origin[0] = ten(601) }, api.ErrLarge},
		{"a text that is no number in Right", func(v *api.View) { v.Right[1] = "2/4" }, api.ErrForm},
		{"a large Right", func(v *api.View) { v.Right[1] = "1/" + ten(601) }, api.ErrLarge},
		{"a text that is no number in Up", func(v *api.View) { v.Up[0] = "" }, api.ErrForm},
		{"a large Up", func(v *api.View) { v.Up[0] = ten(601) }, api.ErrLarge},
		{"Origin ahead of Right", func(v *api.View) { v.Origin[2], v.Right[0] = ten(601), "x" }, api.ErrLarge},
		{"Right ahead of Up", func(v *api.View) { v.Right[2], v.Up[0] = ten(601), "x" }, api.ErrLarge},
		{"Right is 0", func(v *api.View) { v.Right = vec("0 0 0") }, api.ErrZero},
		{"Up is 0", func(v *api.View) { v.Up = vec("0 0 0") }, api.ErrZero},
		{"Right is 0, behind Up", func(v *api.View) { v.Right, v.Up[1] = vec("0 0 0"), "x" }, api.ErrForm},
		{"not orthogonal", func(v *api.View) { v.Up = vec("1 0 1") }, api.ErrFrame},
		{"hardly not orthogonal", func(v *api.View) { v.Up = api.Vec{"-1/" + ten(600), "0", "1"} }, api.ErrFrame},
		{"parallel", func(v *api.View) { v.Up = vec("-1 0 0") }, api.ErrFrame},
	} {
		v := good
		row.change(&v)
		wantError(t, "CheckView of "+row.what, draw.CheckView(v), row.e)
	}
	wantError(t, "CheckView of nothing", draw.CheckView(api.View{}), api.ErrForm)
}

func TestPlaces(t *testing.T) {
	for _, row := range []struct {
		v     api.View
		p     string
		place [2]api.Rat
		depth api.Rat
	}{
		{front(), "1 2 3", [2]api.Rat{"1", "3"}, "-2"},
		{front(), "0 0 0", [2]api.Rat{"0", "0"}, "0"},
		{front(), "1/2 -2/3 -5", [2]api.Rat{"1/2", "-5"}, "2/3"},
		{skew(), "1 0 0", [2]api.Rat{"1/2", "1/6"}, "-1/6"},
		{skew(), "0 1 0", [2]api.Rat{"-1/2", "1/6"}, "-1/6"},
		{skew(), "0 0 1", [2]api.Rat{"0", "1/3"}, "1/6"},
		{skew(), "1 1 0", [2]api.Rat{"0", "1/3"}, "-1/3"},
		{top(), "1 2 3", [2]api.Rat{"1", "2"}, "3"},
		{view("1 1 1", "2 0 0", "0 0 -4"), "1 2 3", [2]api.Rat{"0", "-1/2"}, "1/8"},
		{view("1 2 3", "0 3 0", "0 0 1/2"), "1 2 3", [2]api.Rat{"0", "0"}, "0"},
		{view("1 2 3", "0 3 0", "0 0 1/2"), "4 5 6", [2]api.Rat{"1", "6"}, "2"},
	} {
		place, e := draw.Place(row.v, vec(row.p))
		want(t, "Place of "+row.p, place, e, row.place, api.OK)
		depth, e := draw.Depth(row.v, vec(row.p))
		want(t, "Depth of "+row.p, depth, e, row.depth, api.OK)
	}
}

func TestPlacesOfAnyPoints(t *testing.T) {
	s := newSource(1)
	for range 200 {
		v, p := s.view(), s.vec(-4, 4)
		scene := sceneOf(nil, v)
		wanted := scene.place(pointOf(p))
		place, e := draw.Place(v, p)
		want(t, "Place", place, e, [2]api.Rat{ratOf(wanted[0]), ratOf(wanted[1])}, api.OK)
		way := pointOf(p).minus(pointOf(v.Origin))
		depth, e := draw.Depth(v, p)
		want(t, "Depth", depth, e, ratOf(over(scene.toward.dot(way), scene.toward.dot(scene.toward))), api.OK)
	}
}

// rotation returns a frame whose axes have the same length.
func (s source) rotation() api.Frame {
	for {
		f, e := space.Turn([4]api.Rat{s.rat(-2, 2), s.rat(-2, 2), s.rat(-2, 2), s.rat(-2, 2)})
		size := s.rat(1, 3)
		if e == api.OK {
			f.Origin = s.vec(-3, 3)
			f.X, f.Y, f.Z = sure(space.Scale(size, f.X)), sure(space.Scale(size, f.Y)), sure(space.Scale(size, f.Z))
			return f
		}
	}
}

func TestMovedViews(t *testing.T) {
	quarter := frame("1 0 0", "0 2 0", "-2 0 0", "0 0 2")
	for _, row := range []struct {
		v      api.View
		f      api.Frame
		wanted api.View
		e      api.Errno
	}{
		{front(), quarter, view("1 0 0", "0 2 0", "0 0 2"), api.OK},
		{view("1 2 3", "1 2 2", "2 1 -2"), quarter, view("-3 2 6", "-4 2 4", "-2 4 -4"), api.OK},
		{view("1/2 0 0", "3 4 0", "0 0 5"), frame("0 0 0", "3/5 4/5 0", "-4/5 3/5 0", "0 0 1"), view("3/10 2/5 0", "-7/5 24/5 0", "0 0 5"), api.OK},
		{front(), frame("0 0 0", "0 1 0", "-2 0 0", "0 0 2"), api.View{}, api.ErrFrame},
		{front(), frame("0 0 0", "0 2 0", "-1 0 0", "0 0 2"), api.View{}, api.ErrFrame},
		{front(), frame("0 0 0", "0 2 0", "-2 0 0", "0 0 1"), api.View{}, api.ErrFrame},
		{front(), frame("0 0 0", "1 1 0", "-1 1 0", "0 0 2"), api.View{}, api.ErrFrame},
	} {
		v, e := draw.MoveView(row.v, row.f)
		want(t, "MoveView", v, e, row.wanted, row.e)
	}
	s := newSource(2)
	for range 100 {
		v, f := s.view(), s.rotation()
		free := f
		free.Origin = vec("0 0 0")
		wanted := api.View{Origin: sure(space.Place(f, v.Origin)), Right: sure(space.Place(free, v.Right)), Up: sure(space.Place(free, v.Up))}
		m, e := draw.MoveView(v, f)
		want(t, "MoveView", m, e, wanted, api.OK)
		wantError(t, "CheckView of a moved view", draw.CheckView(m), api.OK)
	}
}

func TestFaces(t *testing.T) {
	f := plain(vec("0 0 0"))
	views, e := draw.Faces(f, vec("4 2 1"))
	want(t, "Faces of the example", views, e, []api.View{
		view("0 0 1", "1 0 0", "0 1 0"), view("0 2 1", "1 0 0", "0 0 -1"),
		view("0 2 0", "1 0 0", "0 -1 0"), view("0 0 0", "1 0 0", "0 0 1"),
	}, api.OK)
	views, e = draw.Faces(frame("1 2 3", "0 2 0", "-1/2 0 0", "0 0 3"), vec("5 2 1/3"))
	want(t, "Faces of a turned box", views, e, []api.View{
		view("1 2 4", "0 2 0", "-1/2 0 0"), view("0 2 4", "0 2 0", "0 0 -3"),
		view("0 2 3", "0 2 0", "1/2 0 0"), view("1 2 3", "0 2 0", "0 0 3"),
	}, api.OK)
	for _, size := range []string{"0 2 1", "4 0 1", "4 2 0", "-4 2 1", "4 2 -1/3"} {
		views, e := draw.Faces(f, vec(size))
		want(t, "Faces of the size "+size, views, e, nil, api.ErrRange)
	}
}

// From outside the whole box is behind the paper, and four of its corners are on it.
func TestFacesOfAnyBoxes(t *testing.T) {
	s := newSource(3)
	for range 40 {
		f, size := s.rotation(), api.Vec{s.rat(1, 4), s.rat(1, 4), s.rat(1, 4)}
		f.Y = sure(space.Scale("3/2", f.Y))
		views, e := draw.Faces(f, size)
		wantError(t, "Faces", e, api.OK)
		ups := []int{1, 2, 1, 2}
		for i, v := range views {
			wantError(t, "CheckView of a face", draw.CheckView(v), api.OK)
			on := map[[2]api.Rat]bool{}
			for _, p := range sure(solid.Corners(sure(solid.Box(f, size)))) {
				depth := sure(draw.Depth(v, p))
				if depth == "0" {
					on[sure(draw.Place(v, p))] = true
				} else if depth[0] != '-' {
					t.Errorf("a corner in front of face %d", i)
				}
			}
			x, y := size[0], size[ups[i]]
			want(t, "the places of corners of a face", on, api.OK, map[[2]api.Rat]bool{{"0", "0"}: true, {x, "0"}: true, {"0", y}: true, {x, y}: true}, api.OK)
		}
	}
}
