package solid_test

import (
	"slices"
	"testing"

	"trunnel/api"
	"trunnel/solid"
	"trunnel/space"
)

// P2.6

func TestAreasAddUpToNothing(t *testing.T) {
	s := newSource(17)
	for range 100 {
		sum := origin()
		for _, v := range must[[]api.Vec](t)(solid.Areas(s.body())) {
			sum = sure(space.AddVec(sum, v))
		}
		want(t, "the sum of the area vectors", sum, api.OK, origin(), api.OK)
	}
}

func TestVolumesOfParts(t *testing.T) {
	s, volume, all := newSource(18), must[api.Rat](t), must[api.Solid](t)
	for range 60 {
		a, b := s.solid(2), s.solid(2)
		rest, both, back := all(solid.Minus(a, b)), all(solid.And(a, b)), all(solid.And(b, a))
		sum := sure(space.Add(volume(solid.Volume(rest)), volume(solid.Volume(both))))
		want(t, "the volume of the parts", sum, api.OK, volume(solid.Volume(a)), api.OK)
		compare := func(x, y api.Body) int {
			return slices.CompareFunc(x, y, func(h, g api.Half) int {
				return slices.Compare(append(h.N[:], sure(space.Compare(h.D, g.D))), append(g.N[:], 0))
			})
		}
		slices.SortFunc(both, compare)
		slices.SortFunc(back, compare)
		want(t, "And in the other order", back, api.OK, both, api.OK)
		union := all(solid.Union(a, b))
		wantError(t, "CheckSolid of Union", solid.CheckSolid(union), api.OK)
		want(t, "what is outside of a union", len(all(solid.Minus(a, union)))+len(all(solid.Minus(b, union))), api.OK, 0, api.OK)
		want(t, "Minus and And", len(all(solid.And(rest, b))), api.OK, 0, api.OK)
	}
}

func TestSweepContainsBothEnds(t *testing.T) {
	s := newSource(19)
	for range 60 {
		b, v := s.body(), s.vec(3)
		swept := api.Solid{must[api.Body](t)(solid.Sweep(b, v))}
		for _, end := range []api.Vec{origin(), v} {
			moved := must[api.Solid](t)(solid.Move(api.Solid{b}, plain(end)))
			left, e := solid.Minus(moved, swept)
			want(t, "what is outside of a sweep", left, e, nil, api.OK)
		}
	}
}

func TestContactsBothWays(t *testing.T) {
	s := newSource(20)
	for range 40 {
		a := s.solid(2)
		b := must[api.Solid](t)(solid.Minus(api.Solid{block(-3, -3, -3, 3, 3, 3)}, a))
		there, e := solid.Contacts(a, b)
		back, e2 := solid.Contacts(b, a)
		wantError(t, "Contacts", e, api.OK)
		wantError(t, "Contacts", e2, api.OK)
		if len(there) != len(back) {
			t.Errorf("Contacts: got %d and %d", len(there), len(back))
		}
		for _, c := range there {
			opposite := api.Contact{Plane: sure(space.Opposite(c.Plane)), Area: sure(space.Scale("-1", c.Area))}
			if !slices.Contains(back, opposite) {
				t.Errorf("Contacts: %v is not among %v", opposite, back)
			}
		}
	}
}

func TestMovedVolumes(t *testing.T) {
	s, volume := newSource(21), must[api.Rat](t)
	for range 60 {
		all, f := s.solid(3), s.frame()
		moved := must[api.Solid](t)(solid.Move(all, f))
		// The product of the squared lengths is the square of the factor.
		lengths := sure(space.Stretch(f))
		square := sure(space.Mul(sure(space.Mul(lengths[0], lengths[1])), lengths[2]))
		factor := sure(space.Div(volume(solid.Volume(moved)), volume(solid.Volume(all))))
		want(t, "the square of the factor", sure(space.Mul(factor, factor)), api.OK, square, api.OK)
		place := must[int](t)
		for range 5 {
			p := s.vec(3)
			want(t, "Position of a moved point", place(solid.Position(moved, sure(space.Place(f, p)))), api.OK, place(solid.Position(all, p)), api.OK)
		}
	}
}
