package draw

import (
	"iter"
	"slices"

	"trunnel/solid"
	"trunnel/space"
)

// cover is what is behind a body, without an end: the points in all of its walls, but for those in their planes.
//
// A solid hides also what is behind its seams, which are what the facets of two bodies have in common: in the plane of a
// seam along Toward there are points inside of the solid that are inside of no body. The cover of a seam lies in this plane.
type cover struct {
	walls []space.Half
	flat  int // the number of walls in whose planes the cover lies: both sides of the plane of a seam, or none
}

// hides returns the part of a span of a line that is behind a cover, and whether it is more than a point.
func (c cover) hides(l line, s span) (span, bool) {
	hidden, beside, ok := l.clip(s, c.walls)
	return hidden, ok && len(beside) == c.flat
}

// covers returns the covers of all bodies and seams of solids.
func (v view) covers(solids []solid.Bodies) []cover {
	var covers []cover
	away := v.toward.Negated()
	for _, bodies := range solids {
		for _, walls := range bodies.Paths(away) {
			covers = append(covers, cover{walls, 0})
		}
		for h, part := range v.seams(bodies) {
			for _, walls := range part.Paths(away) { // h is one of them
				covers = append(covers, cover{append(walls, h.Opposite()), 2})
			}
		}
	}
	return covers
}

// seams goes through the seams in planes along Toward: the half-space of the facet of a body, and the part of this body
// of which the seam is the whole facet.
func (v view) seams(bodies solid.Bodies) iter.Seq2[space.Half, solid.Bodies] {
	return func(yield func(space.Half, solid.Bodies) bool) {
		for j, b := range bodies {
			for i, a := range bodies[:j] {
				for _, h := range a.Halves() {
					if !h.N.Dot(v.toward).IsZero() {
						continue
					}
					part, ok := seam(bodies[i:i+1], h, b.Halves())
					if ok && !yield(h, part) {
						return
					}
				}
			}
		}
	}
}

// seam returns the part of a body of which the seam with another body in the plane of h is the whole facet there, and
// whether there is a seam.
func seam(body solid.Bodies, h space.Half, other []space.Half) (solid.Bodies, bool) {
	opposite := h.Opposite()
	isOpposite := func(g space.Half) bool {
		return comparePoints(g.N, opposite.N) == 0 && g.D.Compare(opposite.D) == 0
	}
	if !slices.ContainsFunc(other, isOpposite) {
		return nil, false
	}
	part := body
	for _, g := range other {
		if !isOpposite(g) {
			part = part.Cut(g)
		}
	}
	return part, !part.Section(h).IsZero()
}

// isHidden reports whether a point is hidden by a solid.
func (v view) isHidden(p space.Vector, bodies solid.Bodies) bool {
	var most space.Number // how much nearer to the viewer a corner is
	for corner := range bodies.Corners() {
		most = greater(most, v.depth(corner).Minus(v.depth(p)))
	}
	if most.IsZero() {
		return false
	}
	end := p.Plus(v.toward.Scaled(most))
	l := through(p, end)
	for _, r := range l.rims(l.between(p, end), bodies) {
		if r.isInside() {
			return true
		}
	}
	return false
}
