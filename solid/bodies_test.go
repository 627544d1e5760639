package solid_test

import (
	"cmp"
	"slices"
	"testing"

	"trunnel/api"
	"trunnel/solid"
	"trunnel/space"
)

// Bodies of any size, which the other packages compute with (Rules: no bounds on the way).

func TestBodiesAreThoseOfSolids(t *testing.T) {
	s := newSource(22)
	for range 30 {
		a, b, h := s.solid(2), s.solid(2), s.half()
		p, q, plane := must[solid.Bodies](t)(solid.Read(a)), must[solid.Bodies](t)(solid.Read(b)), must[space.Half](t)(space.ReadHalf(h))
		got, e := p.Write()
		want(t, "Write", got, e, a, api.OK)
		got, e = p.And(q).Write()
		want(t, "And", got, e, sure(solid.And(a, b)), api.OK)
		got, e = p.Minus(q).Write()
		want(t, "Minus", got, e, sure(solid.Minus(a, b)), api.OK)
		volume, e := p.Volume().Write()
		want(t, "Volume", volume, e, sure(solid.Volume(a)), api.OK)
		wanted := sure(solid.Section(a, h))
		section, e := p.Section(plane).Write()
		want(t, "Section", section, e, wanted, api.OK)
		c := must[space.Number](t)(space.ReadNumber("14/3"))
		section, e = p.Section(space.Half{N: plane.N.Scaled(c), D: plane.D.Times(c)}).Write()
		want(t, "Section in another form of a half-space", section, e, wanted, api.OK)
		got, e = p.Cut(plane).Write()
		want(t, "Cut", got, e, sure(solid.Cut(a, h)), api.OK)
		centre, e := p.Moment().Scaled(space.Integer(1).Over(p.Volume())).Write()
		want(t, "Moment, divided by Volume", centre, e, sure(solid.Centre(a)), api.OK)
		var corners, all []api.Vec
		for corner := range p.Corners() {
			corners = append(corners, must[api.Vec](t)(corner.Write()))
		}
		for _, one := range a {
			all = append(all, sure(solid.Corners(one))...)
		}
		slices.SortFunc(corners, comparePoints)
		slices.SortFunc(all, comparePoints)
		want(t, "Corners", corners, api.OK, all, api.OK)
	}
}

func TestEdgesAndHalvesOfBodies(t *testing.T) {
	s := newSource(24)
	for range 30 {
		one := s.solid(3)
		bodies := must[solid.Bodies](t)(solid.Read(one))
		var got, wanted [][2]api.Vec
		for p, q := range bodies.Edges() {
			e := [2]api.Vec{must[api.Vec](t)(p.Write()), must[api.Vec](t)(q.Write())}
			if comparePoints(e[0], e[1]) > 0 {
				e[0], e[1] = e[1], e[0]
			}
			got = append(got, e)
		}
		for i, b := range bodies {
			want(t, "Halves", written(t, b.Halves()), api.OK, one[i], api.OK)
			wanted = append(wanted, edges(one[i])...)
		}
		compare := func(e, f [2]api.Vec) int { return cmp.Or(comparePoints(e[0], f[0]), comparePoints(e[1], f[1])) }
		slices.SortFunc(got, compare)
		slices.SortFunc(wanted, compare)
		want(t, "Edges", got, api.OK, wanted, api.OK)
		for range bodies.Edges() {
			break // the loop has an end
		}
	}
}

// edges returns the edges of a body: two corners that are together in two planes.
func edges(b api.Body) [][2]api.Vec {
	var l [][2]api.Vec
	points := corners(b)
	for j, q := range points {
		for _, p := range points[:j] {
			planes := 0
			for _, h := range b {
				if sure(space.Side(h, p)) == 0 && sure(space.Side(h, q)) == 0 {
					planes++
				}
			}
			if planes == 2 {
				l = append(l, [2]api.Vec{p, q})
			}
		}
	}
	return l
}

// written returns half-spaces of any form as texts.
func written(t *testing.T, halves []space.Half) []api.Half {
	var l []api.Half
	for _, h := range halves {
		l = append(l, must[api.Half](t)(h.Write()))
	}
	return l
}

func TestPathsOfBodies(t *testing.T) {
	s := newSource(23)
	entered := map[bool]int{}
	for range 60 {
		b, c, v := s.body(), s.body(), s.vec(2)
		way := must[space.Vector](t)(space.ReadVec(v))
		p, q := must[solid.Bodies](t)(solid.Read(api.Solid{b})), must[solid.Bodies](t)(solid.Read(api.Solid{c}))
		moved := must[solid.Bodies](t)(solid.Read(must[api.Solid](t)(solid.Move(api.Solid{b}, plain(v)))))
		// A body is swept where it comes by on its way from here, and on its way back from there.
		both := append(p.Paths(way)[0], moved.Paths(way.Negated())[0]...)
		got, e := solid.Normal(written(t, both))
		wanted, wantedErr := solid.Sweep(b, v)
		want(t, "what is on both ways", got, e, wanted, wantedErr)
		for _, body := range q {
			is := body.Enters(p.Paths(space.Vector{})[0])
			want(t, "Enters of the way of a body that does not move", is, api.OK, len(p.And(q)) > 0, api.OK)
			entered[is]++
		}
	}
	if entered[true] < 10 || entered[false] < 3 {
		t.Errorf("entered or not: %v", entered)
	}
	want(t, "Paths of two bodies", len(must[solid.Bodies](t)(solid.Read(api.Solid{block(0, 0, 0, 1, 1, 1), block(1, 0, 0, 2, 1, 1)})).Paths(space.Vector{})), api.OK, 2, api.OK)
}

func TestBodiesOfAnySize(t *testing.T) {
	// Sides with so many digits that the area and the volume have too many.
	thin := api.Body{half(-1, 0, 0, "0"), half(0, -1, 0, "0"), half(0, 0, -1, "0"), half(0, 0, 1, "1/"+digits(400)), half(0, 1, 0, "1/"+digits(400)), half(1, 0, 0, "1")}
	b := must[solid.Bodies](t)(solid.Read(api.Solid{thin}))
	_, e := b.Volume().Write()
	wantError(t, "the volume of a thin body", e, api.ErrLarge)
	large := must[space.Number](t)(space.ReadNumber(digits(400)))
	scaled := b.Volume().Times(large).Times(large)
	want(t, "the volume of a thin body, times its divisor", scaled.Compare(space.Integer(1)), api.OK, 0, api.OK)
	middle := space.Half{N: space.Integers([3]int{2, 0, 0}), D: space.Integer(1)}
	area := b.Section(middle)
	_, e = area.Write()
	wantError(t, "the section of a thin body", e, api.ErrLarge)
	text, e := area.Scaled(large).Scaled(large).Write()
	want(t, "the section of a thin body, times its divisor", text, e, api.Vec{"1", "0", "0"}, api.OK)
	end := space.Half{N: space.Integers([3]int{2, 0, 0}), D: space.Integer(2)}
	want(t, "the section at the end of a thin body, less that in the middle", b.Section(end).Minus(area).IsZero(), api.OK, true, api.OK)
	_, e = slices.Repeat(b, 65).Write()
	wantError(t, "Write of 65 bodies", e, api.ErrMany)
	want(t, "what is left of 65 bodies without each of them", len(slices.Repeat(b, 65).Minus(b)), api.OK, 0, api.OK)
	for range b.Corners() {
		break // the loop has an end
	}
	_, e = solid.Read(api.Solid{thin, thin})
	wantError(t, "Read of a solid with an error", e, api.ErrClash)
}
