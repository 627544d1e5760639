package solid

import (
	"slices"

	"trunnel/space"
)

// cutAll returns the part of a body in all half-spaces, and whether it has interior points.
func (b body) cutAll(halves []space.Half) (body, bool) {
	for _, h := range halves {
		var ok bool
		if b, ok = b.cut(h); !ok {
			return body{}, false
		}
	}
	return b, true
}

// cut returns the part of a body in a half-space, and whether it has interior points.
func (b body) cut(h space.Half) (body, bool) {
	excess := make([]space.Number, len(b.corners))
	within, beyond := false, false
	for i, p := range b.corners {
		excess[i] = h.Excess(p)
		within = within || excess[i].Sign() < 0
		beyond = beyond || excess[i].Sign() > 0
	}
	switch {
	case !within:
		return body{}, false
	case !beyond:
		return b, true
	}
	return b.divide(h, excess), true
}

// division is the work of dividing a body by a plane: the part on one side is made from the whole.
type division struct {
	whole   body
	excess  []space.Number // of each corner of the whole
	part    body
	rim     []int          // the corners of the part in the plane
	kept    []int          // the corner of the part that each corner of the whole becomes
	crossed map[[2]int]int // the corner of the part at which each edge of the whole crosses the plane
}

// divide returns the part of a body in a half-space that has corners on both sides, by the excess of each corner.
func (b body) divide(h space.Half, excess []space.Number) body {
	d := division{whole: b, excess: excess, kept: make([]int, len(b.corners)), crossed: map[[2]int]int{}}
	for i, p := range b.corners {
		if excess[i].Sign() <= 0 {
			d.kept[i] = d.add(p, excess[i].IsZero())
		}
	}
	for _, f := range b.facets {
		if ring := d.ring(f); len(ring) >= 3 {
			d.part.facets = append(d.part.facets, facet{f.half, ring})
		}
	}
	d.part.addFacet(h, d.rim)
	return d.part
}

// add adds a corner to the part, and returns its number.
func (d *division) add(p space.Vector, onPlane bool) int {
	number := len(d.part.corners)
	d.part.corners = append(d.part.corners, p)
	if onPlane {
		d.rim = append(d.rim, number)
	}
	return number
}

// ring returns what is left of a facet, in the same order.
func (d *division) ring(f facet) []int {
	var ring []int
	for i, j := range f.sides() {
		if d.excess[i].Sign() <= 0 {
			ring = append(ring, d.kept[i])
		}
		if d.excess[i].Sign()*d.excess[j].Sign() < 0 {
			ring = append(ring, d.cross(i, j))
		}
	}
	return ring
}

// cross returns the corner of the part at which the edge between two corners of the whole crosses the plane.
func (d *division) cross(i, j int) int {
	edge := [2]int{min(i, j), max(i, j)} // both facets have it, in opposite directions
	number, ok := d.crossed[edge]
	if !ok {
		way := d.whole.corners[j].Minus(d.whole.corners[i])
		share := d.excess[i].Over(d.excess[i].Minus(d.excess[j]))
		number = d.add(d.whole.corners[i].Plus(way.Scaled(share)), true)
		d.crossed[edge] = number
	}
	return number
}

// isOutside reports whether no corner of a body is inside of a half-space and off its plane.
func (b body) isOutside(h space.Half) bool {
	return !slices.ContainsFunc(b.corners, func(p space.Vector) bool { return h.Excess(p).Sign() < 0 })
}

// barrier returns the first half-space of a outside of which b is, and whether there is one.
func barrier(a, b body) (space.Half, bool) {
	for _, f := range a.facets {
		if b.isOutside(f.half) {
			return f.half, true
		}
	}
	return space.Half{}, false
}

// areApart reports whether a half-space of one of two bodies tells that they have no common interior points.
// Most bodies that have none show it this way, which is quicker than to cut them.
func areApart(a, b body) bool {
	_, ofA := barrier(a, b)
	if ofA {
		return true
	}
	_, ofB := barrier(b, a)
	return ofB
}

// common returns the body of the half-spaces of both, and whether it has interior points.
func common(a, b body) (body, bool) {
	if areApart(a, b) {
		return body{}, false
	}
	return a.cutAll(b.Halves())
}

// Enters reports whether the part of a body in all half-spaces has interior points.
func (b body) Enters(halves []space.Half) bool {
	// Most bodies that have none show it this way, which is quicker than to cut them.
	if slices.ContainsFunc(halves, b.isOutside) {
		return false
	}
	_, ok := b.cutAll(halves)
	return ok
}
