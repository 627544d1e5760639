package roof_test

import (
	"math/big"
	"testing"

	"trunnel/api"
	"trunnel/roof"
	"trunnel/solid"
	"trunnel/space"
)

// P4.6

// TestCover has places that are in the polygon, each in one facet, or on the borders of several ones.
func TestCover(t *testing.T) {
	s := newSource(20)
	for range 100 {
		w := s.wing()
		m := modelOf(w)
		facets := sure(roof.Facets(w))
		for range 5 {
			p := s.inside(m)
			var strictly, loosely int
			for _, f := range facets {
				inside, on := true, true
				corners := wantFacet(t, m, f)
				for i, a := range corners {
					b := corners[(i+1)%len(corners)]
					sign := area([]place{a, b, p}).Sign()
					inside, on = inside && sign > 0, on && sign >= 0
				}
				if inside {
					strictly++
				}
				if on {
					loosely++
				}
			}
			if strictly > 1 || loosely == 0 || strictly == 1 && loosely != 1 {
				t.Errorf("the place %v is inside of %d facets of %v, and in %d", rats(p), strictly, w, loosely)
			}
		}
	}
}

// centre returns the centre of gravity of a polygon.
func centre(corners []place) place {
	sum, whole := place{new(big.Rat), new(big.Rat)}, new(big.Rat)
	for i := range corners[2:] {
		p, q, r := corners[0], corners[i+1], corners[i+2]
		part := area([]place{p, q, r})
		whole = add(whole, part)
		for k := range sum {
			sum[k] = add(sum[k], mul(part, quo(add(add(p[k], q[k]), r[k]), frac(3, 1))))
		}
	}
	return place{quo(sum[0], whole), quo(sum[1], whole)}
}

func TestVolumesAgree(t *testing.T) {
	s := newSource(21)
	for range 100 {
		w, base := s.wing(), s.rat(-5, -2)
		m := modelOf(w)
		sum := new(big.Rat)
		for _, f := range sure(roof.Facets(w)) {
			corners := wantFacet(t, m, f)
			sum = add(sum, mul(area(corners), sub(m.planes[f.Side].at(centre(corners)), bigOf(base))))
		}
		v, e := roof.Volume([]api.Wing{w}, base)
		want(t, "Volume, by facets", v, e, ratOf(sum), api.OK)
		v, e = solid.Volume(api.Solid{sure(roof.Body(w, base))})
		want(t, "Volume of Body", v, e, ratOf(sum), api.OK)
	}
}

// TestUnderRoof compares the solid under a roof with its heights.
func TestUnderRoof(t *testing.T) {
	s := newSource(22)
	for range 20 {
		l := []api.Wing{s.wing(), s.wing()}
		under, e := roof.Solid(l, "-2")
		if e != api.OK {
			continue
		}
		for range 20 {
			p := s.inside(modelOf(l[s.Intn(2)]))
			if s.Intn(4) == 0 {
				p = place{bigOf(s.rat(-4, 8)), bigOf(s.rat(-4, 8))}
			}
			z, e := roof.Height(l, rats(p))
			if e != api.OK {
				want(t, "Position beyond a roof", sure(solid.Position(under, api.Vec{ratOf(p[0]), ratOf(p[1]), "-1"})), 0, -1, 0)
				continue
			}
			for _, row := range []struct {
				z  api.Rat
				in bool
			}{{z, true}, {sure(space.Add(z, "1/1000")), false}, {sure(space.Sub(z, "1/7")), true}, {"-2", true}, {"-201/100", false}} {
				position := sure(solid.Position(under, api.Vec{ratOf(p[0]), ratOf(p[1]), row.z}))
				if (position >= 0) != row.in {
					t.Errorf("Position of %v with z %s under %v: got %d", rats(p), row.z, l, position)
				}
			}
		}
	}
}

// TestAlongEdges compares the heights of both planes along hips and ridges, and that of the roof.
func TestAlongEdges(t *testing.T) {
	s := newSource(23)
	for range 100 {
		w := s.wing()
		m := modelOf(w)
		for _, x := range sure(roof.Edges(w)) {
			for _, share := range []api.Rat{"0", "1/3", "1"} {
				p := sure(space.AddVec(x.From, sure(space.Scale(share, sure(space.SubVec(x.To, x.From))))))
				at := [2]api.Rat{p[0], p[1]}
				z, e := roof.Height([]api.Wing{w}, at)
				want(t, "the height along an edge", z, e, p[2], api.OK)
				for _, side := range []int{x.A, x.B} {
					if f, ok := m.planes[side]; ok {
						want(t, "the height of a plane along an edge", ratOf(f.at(place{bigOf(at[0]), bigOf(at[1])})), 0, p[2], 0)
					}
				}
			}
		}
	}
}

// TestRaftersEnd looks for the upper ends of rafters on hips, ridges and gables.
func TestRaftersEnd(t *testing.T) {
	s := newSource(24)
	for range 50 {
		w := s.wing()
		edges := sure(roof.Edges(w))
		for side := range modelOf(w).planes {
			for _, r := range sure(roof.Rafters(w, side, "1/3", "3/4")) {
				ends := 0
				for _, x := range edges {
					if x.Kind != "eave" && (x.A == side || x.B == side) && between(x.From, x.To, r[1]) {
						ends++
					}
				}
				if ends == 0 {
					t.Errorf("the rafter %v of side %d of %v ends on no edge", r, side, w)
				}
				want(t, "the foot of a rafter", r[0][2], 0, w.Height, 0)
			}
		}
	}
}

// between reports whether a point is on the segment of two other ones.
func between(a, b, p api.Vec) bool {
	share, e := space.Along(sure(space.SubVec(b, a)), sure(space.SubVec(p, a)))
	return e == api.OK && sure(space.Compare(share, "0")) >= 0 && sure(space.Compare(share, "1")) <= 0
}

func TestGreaterSlopes(t *testing.T) {
	s := newSource(25)
	for range 100 {
		w := s.wing()
		steeper := w
		steeper.Slopes = append([]api.Rat{}, w.Slopes...)
		for i, slope := range w.Slopes {
			if slope != "" && s.Intn(2) == 0 {
				steeper.Slopes[i] = sure(space.Add(slope, s.rat(0, 2)))
			}
		}
		m := modelOf(w)
		for range 10 {
			p := rats(s.inside(m))
			low, high := sure(roof.Height([]api.Wing{w}, p)), sure(roof.Height([]api.Wing{steeper}, p))
			if sure(space.Compare(low, high)) > 0 {
				t.Errorf("at %v the roof %v is higher than %v", p, w, steeper)
			}
		}
	}
}
