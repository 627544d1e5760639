package solid

import (
	"cmp"
	"iter"
	"slices"

	"trunnel/api"
	"trunnel/space"
)

// body is a body with its corners and facets. It has no limits, and is never changed once it is made.
type body struct {
	corners []space.Vector
	facets  []facet
}

// Bodies are the bodies of a solid, without limits, and never changed either. Only texts have limits.
type Bodies []body

// facet is the facet of a half-space: the numbers of its corners, counterclockwise seen from outside.
type facet struct {
	half space.Half
	ring []int
}

// sides goes through the neighbouring corners of a facet.
func (f facet) sides() iter.Seq2[int, int] {
	return func(yield func(int, int) bool) {
		for k, i := range f.ring {
			if !yield(i, f.ring[(k+1)%len(f.ring)]) {
				return
			}
		}
	}
}

// triples goes through all choices of three elements of a list.
func triples[T any](list []T) iter.Seq[[3]T] {
	return func(yield func([3]T) bool) {
		for k := range list {
			for j := range k {
				for i := range j {
					if !yield([3]T{list[i], list[j], list[k]}) {
						return
					}
				}
			}
		}
	}
}

// compareThree compares triples by their first elements, then by the second ones, then by the third ones.
func compareThree[T any, A ~[3]T](compare func(a, b T) int) func(a, b A) int {
	return func(a, b A) int {
		return cmp.Or(compare(a[0], b[0]), compare(a[1], b[1]), compare(a[2], b[2]))
	}
}

// comparePoints compares points by their coordinates.
func comparePoints(a, b space.Vector) int {
	return compareThree[space.Number, space.Vector](space.Number.Compare)(a, b)
}

// build returns the body of a list of half-spaces, with its facets in the order of bodies.
// The error is ErrOpen if the list is not bounded, and ErrEmpty if it has no interior points.
func build(halves []space.Half) (body, api.Errno) {
	few, ok := bounding(halves)
	if !ok {
		return body{}, api.ErrOpen
	}
	// Triples of a few planes are not many: all others cut a body that is there.
	b, ok := meeting(few).cutAll(halves)
	if !ok {
		return body{}, api.ErrEmpty
	}
	return b.ordered(), api.OK
}

// ordered returns a body with its facets in the order of their normals.
func (b body) ordered() body {
	facets := slices.SortedFunc(slices.Values(b.facets), func(f, g facet) int {
		return comparePoints(f.half.N, g.half.N)
	})
	return body{b.corners, facets}
}

// bounding returns a few half-spaces of a list that are bounded already, if the list is.
func bounding(halves []space.Half) ([]space.Half, bool) {
	var few []space.Half
	for {
		way, open := escape(few)
		if !open {
			return few, true
		}
		h, ok := steepest(halves, way)
		if !ok {
			return nil, false
		}
		few = append(few, h)
	}
}

// steepest returns the half-space out of which a direction leads with the greatest product, if it leads out.
func steepest(halves []space.Half, way space.Vector) (space.Half, bool) {
	var steepest space.Half
	var most space.Number
	for _, h := range halves {
		if product := h.N.Dot(way); product.Compare(most) > 0 {
			steepest, most = h, product
		}
	}
	return steepest, most.Sign() > 0
}

// leadsOut reports whether a direction leads out of half-spaces.
func leadsOut(halves []space.Half, way space.Vector) bool {
	return slices.ContainsFunc(halves, func(h space.Half) bool { return h.N.Dot(way).Sign() > 0 })
}

// escape returns a direction that does not lead out of half-spaces, and whether there is one.
// If there is one, there is also one along a crossing of two planes, or, if all planes are parallel
// (or there are none), of one of them with a plane of the axes (or of two of these).
func escape(halves []space.Half) (space.Vector, bool) {
	normals := make([]space.Vector, 0, len(halves)+3)
	for _, h := range halves {
		normals = append(normals, h.N)
	}
	for _, axis := range [3][3]int{{1, 0, 0}, {0, 1, 0}, {0, 0, 1}} {
		normals = append(normals, space.Integers(axis))
	}
	for i, n := range normals {
		for _, m := range normals[:i] {
			way := m.Cross(n)
			for _, way := range [2]space.Vector{way, way.Negated()} {
				if !way.IsZero() && !leadsOut(halves, way) {
					return way, true
				}
			}
		}
	}
	return space.Vector{}, false
}

// meeting returns the body of bounded half-spaces. If they have no interior points, it is flat, or has no corners:
// then all of these are in the plane of one of the half-spaces, which leaves nothing if it cuts the body.
func meeting(halves []space.Half) body {
	var b body
	for planes := range triples(halves) {
		if p, ok := planes[0].Crossing(planes[1], planes[2]); ok && contains(halves, p) {
			b.corners = append(b.corners, p)
		}
	}
	slices.SortFunc(b.corners, comparePoints)
	b.corners = slices.CompactFunc(b.corners, func(p, q space.Vector) bool { return comparePoints(p, q) == 0 })
	for _, h := range halves {
		var ring []int
		for i, p := range b.corners {
			if h.Excess(p).IsZero() {
				ring = append(ring, i)
			}
		}
		b.addFacet(h, ring)
	}
	return b
}

// contains reports whether a point is in all half-spaces.
func contains(halves []space.Half, p space.Vector) bool {
	return !slices.ContainsFunc(halves, func(h space.Half) bool { return h.Excess(p).Sign() > 0 })
}

// addFacet adds the facet of a half-space with corners in any order, unless they lie on a line.
func (b *body) addFacet(h space.Half, ring []int) {
	if len(ring) < 3 {
		return
	}
	first := b.corners[ring[0]]
	slices.SortFunc(ring[1:], func(i, j int) int {
		return b.corners[j].Minus(first).Cross(b.corners[i].Minus(first)).Dot(h.N).Sign()
	})
	b.facets = append(b.facets, facet{h, ring})
}

// Halves returns the half-spaces of a body.
func (b body) Halves() []space.Half {
	halves := make([]space.Half, len(b.facets))
	for i, f := range b.facets {
		halves[i] = f.half
	}
	return halves
}
