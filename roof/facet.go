package roof

import (
	"cmp"
	"iter"
	"slices"

	"trunnel/api"
	"trunnel/space"
)

// polygon is a convex polygon in space, in a plane that is not vertical: its corners, counterclockwise seen from above.
type polygon []space.Vector

// around goes through the elements of a list, each one with the one behind it, and the last one with the first one.
func around[T any](list []T) iter.Seq2[T, T] {
	return func(yield func(T, T) bool) {
		for i, x := range list {
			if !yield(x, list[(i+1)%len(list)]) {
				return
			}
		}
	}
}

// corner is a corner of a polygon, and by how much it is outside of a half-space.
type corner struct {
	point  space.Vector
	excess space.Number
}

// cut returns the part of a convex polygon in a half-space, its corners in the same order. Where the
// polygon is a segment, or becomes one, this is so for all its points, and a point may occur twice.
func cut[P ~[]space.Vector](whole P, h space.Half) P {
	corners := make([]corner, len(whole))
	for i, p := range whole {
		corners[i] = corner{p, h.Excess(p)}
	}
	var part P
	for p, q := range around(corners) {
		if p.excess.Sign() <= 0 {
			part = append(part, p.point)
		}
		if p.excess.Sign()*q.excess.Sign() < 0 {
			share := p.excess.Over(p.excess.Minus(q.excess))
			part = append(part, p.point.Plus(q.point.Minus(p.point).Scaled(share)))
		}
	}
	return part
}

// cutAll returns the part of a convex polygon in all half-spaces.
func cutAll[P ~[]space.Vector](whole P, halves ...space.Half) P {
	for _, h := range halves {
		whole = cut(whole, h)
	}
	return whole
}

// facets returns the facets of the sides with slopes by their numbers, in the planes of these.
func (w wing) facets() map[int]polygon {
	facets := map[int]polygon{}
	planes := w.planes()
	for s := range w.sloped() {
		// A point of the plane is in the half-space below another one if this is not lower.
		facets[s.number] = cutAll(w.under(s), planes...)
	}
	return facets
}

// under returns the polygon of a wing, raised to the plane of a side.
func (w wing) under(s side) polygon {
	raised := make(polygon, len(w))
	for i, other := range w {
		raised[i] = s.raised(other.from)
	}
	return raised
}

// triangles goes through triangles of which a polygon consists, with twice their areas in plan.
func (p polygon) triangles() iter.Seq2[[3]space.Vector, space.Number] {
	return func(yield func([3]space.Vector, space.Number) bool) {
		for i := range p[2:] {
			a, b, c := p[0], p[i+1], p[i+2]
			if !yield([3]space.Vector{a, b, c}, b.Minus(a).Cross(c.Minus(a))[2]) {
				return
			}
		}
	}
}

// area returns the area of a polygon in plan.
func (p polygon) area() space.Number {
	var twice space.Number
	for _, double := range p.triangles() {
		twice = twice.Plus(double)
	}
	return twice.Over(space.Integer(2))
}

// comparePlaces compares points by their x, then by their y.
func comparePlaces(p, q space.Vector) int {
	return cmp.Or(p[0].Compare(q[0]), p[1].Compare(q[1]))
}

// Facets returns the facets of a wing.
func Facets(w api.Wing) ([]Facet, api.Errno) {
	r, e := readWing(w)
	if e != api.OK {
		return nil, e
	}
	var list []Facet
	facets := r.facets()
	for s := range r.sloped() {
		corners, e := facets[s.number].write()
		if e != api.OK {
			return nil, e
		}
		list = append(list, Facet{Side: s.number, Corners: corners})
	}
	return list, api.OK
}

// write returns the corners of a polygon in plan, the least one first.
func (p polygon) write() ([][2]api.Rat, api.Errno) {
	least := slices.MinFunc(p, comparePlaces)
	at := slices.IndexFunc(p, func(q space.Vector) bool { return comparePlaces(q, least) == 0 })
	return convertAll(writePlace, slices.Concat(p[at:], p[:at]))
}

// writePlace returns the texts of a point in plan, or ErrLarge.
func writePlace(p space.Vector) ([2]api.Rat, api.Errno) {
	x, errX := p[0].Write()
	y, errY := p[1].Write()
	return [2]api.Rat{x, y}, cmp.Or(errX, errY)
}

// Areas returns the areas of the facets in plan, and the squares of their true areas.
func Areas(w api.Wing) ([]api.Rat, []api.Rat, api.Errno) {
	r, e := readWing(w)
	if e != api.OK {
		return nil, nil, e
	}
	var inPlan, squares []space.Number
	facets := r.facets()
	for s := range r.sloped() {
		area := facets[s.number].area()
		inPlan = append(inPlan, area)
		squares = append(squares, area.Times(area).Times(s.plane.N.Square()))
	}
	plain, errPlain := convertAll(space.Number.Write, inPlan)
	squared, errSquared := convertAll(space.Number.Write, squares)
	if e := cmp.Or(errPlain, errSquared); e != api.OK {
		return nil, nil, e
	}
	return plain, squared, api.OK
}
