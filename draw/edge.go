package draw

import (
	"cmp"
	"iter"

	"trunnel/api"
	"trunnel/solid"
	"trunnel/space"
)

// edge is an edge of a solid, from its first point to its last one.
type edge [2]space.Vector

// comparePoints compares points by their coordinates.
func comparePoints(p, q space.Vector) int {
	return cmp.Or(p[0].Compare(q[0]), p[1].Compare(q[1]), p[2].Compare(q[2]))
}

func (e edge) compare(f edge) int {
	return cmp.Or(comparePoints(e[0], f[0]), comparePoints(e[1], f[1]))
}

// write returns the texts of an edge, or ErrLarge.
func (e edge) write() ([2]api.Vec, api.Errno) {
	from, errFrom := e[0].Write()
	to, errTo := e[1].Write()
	if e := cmp.Or(errFrom, errTo); e != api.OK {
		return [2]api.Vec{}, e
	}
	return [2]api.Vec{from, to}, api.OK
}

// byLine goes through different lines, each one with all things that lie on it, in any order of the lines.
func byLine[T any](things iter.Seq2[line, T]) iter.Seq2[line, []T] {
	lines, lists := map[key]line{}, map[key][]T{}
	for l, thing := range things {
		k := l.key()
		lines[k] = l
		lists[k] = append(lists[k], thing)
	}
	return func(yield func(line, []T) bool) {
		for k, l := range lines {
			if !yield(l, lists[k]) {
				return
			}
		}
	}
}

// bodyEdges goes through the edges of all bodies: their lines, and their spans of these.
func bodyEdges(bodies solid.Bodies) iter.Seq2[line, span] {
	return func(yield func(line, span) bool) {
		for p, q := range bodies.Edges() {
			l := through(p, q)
			if !yield(l, l.between(p, q)) {
				return
			}
		}
	}
}

// edges goes through the lines of the edges of bodies, in any order, with the spans that are edges of the solid.
func edges(bodies solid.Bodies) iter.Seq2[line, []span] {
	return func(yield func(line, []span) bool) {
		for l, spans := range byLine(bodyEdges(bodies)) {
			var drawn []span
			for s, r := range l.rims(extent(spans), bodies) {
				if r.isEdge() {
					drawn = append(drawn, s)
				}
			}
			if !yield(l, join(drawn)) {
				return
			}
		}
	}
}

// extent returns the least span that contains some spans, of which there is one at least.
func extent(spans []span) span {
	all := spans[0]
	for _, s := range spans {
		all = span{lesser(all.low, s.low), greater(all.high, s.high)}
	}
	return all
}
