package draw

import (
	"iter"
	"slices"

	"trunnel/solid"
	"trunnel/space"
)

// What a body leaves open round a line is bounded by rays across it, which lie in the planes of the facets beside the line.
// A ray is told by the normal n for which it leads along way x n: the normals of a plane have one form but for their signs,
// so that rays are the same where their normals are. Bodies without common interior points lie on both sides of a ray
// that they share, and leave nothing open there.

// part is the part of a line that is in a body, and the rays that bound the body there.
type part struct {
	span
	rays []space.Vector
}

// rim is what bounds the neighbourhood of a solid along a span of a line.
type rim struct {
	isOutside bool // no body is there
	rays      []space.Vector
}

// add adds a ray to a rim, or takes it away if it is there on the other side.
func (r *rim) add(ray space.Vector) {
	isSame := func(other space.Vector) bool { return other.Minus(ray).IsZero() }
	if i := slices.IndexFunc(r.rays, isSame); i >= 0 {
		r.rays = slices.Delete(r.rays, i, i+1)
		return
	}
	r.rays = append(r.rays, ray)
}

// isInside reports whether the neighbourhood contains all vectors.
func (r rim) isInside() bool { return !r.isOutside && len(r.rays) == 0 }

// isEdge reports whether the neighbourhood contains some vectors, but not all, and is not a half-space.
func (r rim) isEdge() bool {
	isFlat := len(r.rays) == 2 && r.rays[0].Plus(r.rays[1]).IsZero()
	return len(r.rays) > 0 && !isFlat
}

// rays goes through the rays that bound a body along a line, by the half-spaces in whose planes the line lies.
func (l line) rays(beside []space.Half) iter.Seq[space.Vector] {
	return func(yield func(space.Vector) bool) {
		for _, h := range beside {
			for _, ray := range [2]space.Vector{h.N, h.N.Negated()} {
				way := l.way.Cross(ray)
				leavesBody := slices.ContainsFunc(beside, func(g space.Half) bool { return g.N.Dot(way).Sign() > 0 })
				if !leavesBody && !yield(ray) {
					return
				}
			}
		}
	}
}

// parts returns the parts of a span of a line that are in the bodies of a solid.
func (l line) parts(s span, bodies solid.Bodies) []part {
	var parts []part
	for _, b := range bodies {
		if inside, beside, ok := l.clip(s, b.Halves()); ok {
			parts = append(parts, part{inside, slices.Collect(l.rays(beside))})
		}
	}
	return parts
}

// breaks goes through the ends of parts.
func breaks(parts []part) iter.Seq[space.Number] {
	return func(yield func(space.Number) bool) {
		for _, p := range parts {
			if !yield(p.low) || !yield(p.high) {
				return
			}
		}
	}
}

// rims goes through the spans of a line between its breaks in a span, with what bounds a solid there.
func (l line) rims(s span, bodies solid.Bodies) iter.Seq2[span, rim] {
	parts := l.parts(s, bodies)
	ends := ascending(breaks(parts))
	return func(yield func(span, rim) bool) {
		for i := 1; i < len(ends); i++ {
			between := span{ends[i-1], ends[i]}
			if !yield(between, rimOf(between, parts)) {
				return
			}
		}
	}
}

// rimOf returns what bounds the solid of some parts along a span without breaks.
func rimOf(s span, parts []part) rim {
	r := rim{isOutside: true}
	for _, p := range parts {
		if !p.contains(s) {
			continue
		}
		r.isOutside = false
		for _, ray := range p.rays {
			r.add(ray)
		}
	}
	return r
}
