package draw_test

import (
	"slices"
	"testing"

	"trunnel/api"
	"trunnel/draw"
	"trunnel/solid"
	"trunnel/space"
)

// P9.6

func TestBodiesHaveEdgesOfCornersAndFacets(t *testing.T) {
	s := newSource(14)
	for range 100 {
		b := s.body()
		l, e := draw.Edges(api.Solid{b})
		want(t, "the number of edges", len(l), e, len(sure(solid.Corners(b)))+len(b)-2, api.OK)
	}
}

// middleOf returns the place in the middle of two ones.
func middleOf(p, q [2]api.Rat) [2]api.Rat {
	var m [2]api.Rat
	for i := range m {
		m[i] = sure(space.Mul("1/2", sure(space.Add(p[i], q[i]))))
	}
	return m
}

func TestLinesArePlacesOfEdges(t *testing.T) {
	s := newSource(15)
	for range 60 {
		solids, v := s.solids(3), s.view()
		var edges [][2][2]api.Rat
		for _, one := range solids {
			for _, e := range sure(draw.Edges(one)) {
				edges = append(edges, [2][2]api.Rat{sure(draw.Place(v, e[0])), sure(draw.Place(v, e[1]))})
			}
		}
		for _, l := range sure(draw.Lines(solids, v)) {
			// Where a line consists of the places of several edges, some part of it is that of a single one.
			from := middleOf(l.From, middleOf(l.From, middleOf(l.From, l.To)))
			isOn := slices.ContainsFunc(edges, func(e [2][2]api.Rat) bool {
				if comparePlaces(e[0], e[1]) > 0 {
					e[0], e[1] = e[1], e[0]
				}
				return comparePlaces(e[0], e[1]) < 0 && left(e[0], e[1], l.From) == 0 && left(e[0], e[1], l.To) == 0 &&
					comparePlaces(e[0], from) <= 0 && comparePlaces(from, e[1]) <= 0
			})
			want(t, "whether a line is on an edge", isOn, api.OK, true, api.OK)
		}
	}
}

func TestLinesAreWithinOutlines(t *testing.T) {
	s := newSource(16)
	for range 60 {
		b, v := s.body(), s.view()
		o := sure(draw.Outline(api.Solid{b}, v))
		for _, l := range sure(draw.Lines([]api.Solid{{b}}, v)) {
			for i, p := range o {
				q := o[(i+1)%len(o)]
				if left(p, q, l.From) < 0 || left(p, q, l.To) < 0 {
					t.Errorf("a line beyond the outline: %v of %v in %v", l, b, v)
				}
			}
		}
		want(t, "Area of the outline", sure(draw.Area(o)), api.OK, sure(draw.Shadow(b, v)), api.OK)
	}
}

func TestDivisionsAndOrders(t *testing.T) {
	s := newSource(17)
	for range 60 {
		solids, v := s.solids(3), s.view()
		wanted := sure(draw.Lines(solids, v))
		other := make([]api.Solid, len(solids))
		for i, k := range s.Perm(len(solids)) {
			other[i] = divided(solids[k], s.half())
			want(t, "Edges of a divided solid", sure(draw.Edges(other[i])), api.OK, sure(draw.Edges(solids[k])), api.OK)
			slices.Reverse(other[i])
		}
		want(t, "Lines of divided solids in another order", sure(draw.Lines(other, v)), api.OK, wanted, api.OK)
		p := s.points(solids)[0]
		want(t, "Hidden by divided solids", sure(draw.Hidden(other, v, p)), api.OK, sure(draw.Hidden(solids, v, p)), api.OK)
	}
}

func TestMovedDrawings(t *testing.T) {
	s := newSource(18)
	for range 60 {
		solids, v, f := s.solids(2), s.view(), s.rotation()
		m, there := sure(draw.MoveView(v, f)), moved(solids, f)
		want(t, "Lines of moved solids", sure(draw.Lines(there, m)), api.OK, sure(draw.Lines(solids, v)), api.OK)
		for _, p := range s.points(solids) {
			at := sure(space.Place(f, p))
			want(t, "Place of a moved point", sure(draw.Place(m, at)), api.OK, sure(draw.Place(v, p)), api.OK)
			want(t, "Hidden of a moved point", sure(draw.Hidden(there, m, at)), api.OK, sure(draw.Hidden(solids, v, p)), api.OK)
		}
	}
}

// visibleOnly returns what is visible of lines.
func visibleOnly(l []api.Line) []api.Line {
	return slices.DeleteFunc(slices.Clone(l), func(one api.Line) bool { return one.Hidden })
}

func TestSolidsBehindAllOthers(t *testing.T) {
	s := newSource(19)
	for range 60 {
		solids, v := s.solids(2), s.view()
		toward := sceneOf(nil, v).toward.vec()
		// All solids are near the origin, so that this is far enough for Toward of any length.
		far := sure(space.Add("1", sure(space.Div("1", sure(space.Square(toward))))))
		back := sure(space.Scale(sure(space.Mul("-20", far)), toward))
		last := moved([]api.Solid{s.solid()}, plain(back))
		all := sure(draw.Lines(slices.Concat(last, solids), v))
		for _, one := range solids {
			for _, p := range s.points([]api.Solid{one}) {
				without, with := sure(draw.Hidden(solids, v, p)), sure(draw.Hidden(slices.Concat(solids, last), v, p))
				want(t, "Hidden with a solid behind", with, api.OK, without, api.OK)
			}
		}
		for _, one := range visibleOnly(sure(draw.Lines(solids, v))) {
			isThere := slices.ContainsFunc(visibleOnly(all), func(l api.Line) bool {
				return left(l.From, l.To, one.From) == 0 && left(l.From, l.To, one.To) == 0 &&
					comparePlaces(l.From, one.From) <= 0 && comparePlaces(one.To, l.To) <= 0
			})
			want(t, "whether a line is still visible", isThere, api.OK, true, api.OK)
		}
	}
}

func TestStepsAddUpToExtents(t *testing.T) {
	s := newSource(20)
	for range 60 {
		one, d := s.solid(), s.vec(-3, 3)
		if len(one) == 0 || d == vec("0 0 0") {
			continue
		}
		sum := api.Rat("0")
		for _, step := range sure(draw.Steps(sure(draw.Chain(one, d)))) {
			sum = sure(space.Add(sum, step))
		}
		low, high, e := solid.Extent(one, d)
		wanted := sure(space.Div(sure(space.Sub(high, low)), sure(space.Square(d))))
		want(t, "the sum of steps", sum, e, wanted, api.OK)
	}
}
