package roof

import (
	"cmp"
	"slices"

	"trunnel/api"
	"trunnel/space"
)

// edge is an edge of a wing, or a valley, with numbers of any size.
type edge struct {
	kind     string
	a, b     int
	from, to space.Vector
}

// edges are the edges that were found so far.
type edges []edge

// add adds the edge that points on a line leave, unless they are all one point.
func (l *edges) add(kind string, a, b side, points []space.Vector) {
	if len(points) == 0 {
		return
	}
	from, to := slices.MinFunc(points, comparePlaces), slices.MaxFunc(points, comparePlaces)
	if comparePlaces(from, to) != 0 {
		*l = append(*l, edge{kind, a.number, b.number, from, to})
	}
}

// rank returns the numbers by which edges are sorted.
func (x edge) rank() [3]int {
	switch x.kind {
	case "eave":
		return [3]int{0, x.a, x.b}
	case "gable":
		return [3]int{2, x.b, x.a}
	}
	return [3]int{1, x.a, x.b}
}

// compare compares edges by their ranks.
func (x edge) compare(y edge) int {
	a, b := x.rank(), y.rank()
	return slices.Compare(a[:], b[:])
}

// write returns the texts of an edge, or ErrLarge.
func (x edge) write() (Edge, api.Errno) {
	from, errFrom := x.from.Write()
	to, errTo := x.to.Write()
	return Edge{Kind: x.kind, A: x.a, B: x.b, From: from, To: to}, cmp.Or(errFrom, errTo)
}

// onPlane returns the corners of a polygon that are on a plane.
func (p polygon) onPlane(h space.Half) []space.Vector {
	var corners []space.Vector
	for _, q := range p {
		if h.Excess(q).IsZero() {
			corners = append(corners, q)
		}
	}
	return corners
}

// edges returns the edges of a wing. A facet lies on one side of every wall, and of every other plane:
// so what it has on one of these is a corner or an edge.
func (w wing) edges() edges {
	var list edges
	facets := w.facets()
	for a := range w.sloped() {
		list.add("eave", a, a, []space.Vector{a.from, a.to})
		for _, b := range w {
			switch {
			case b.isGable():
				list.add("gable", a, b, facets[a.number].onPlane(b.wall))
			case a.number < b.number:
				shared := facets[a.number].onPlane(b.plane)
				list.add(ridgeOrHip(shared), a, b, shared)
			}
		}
	}
	slices.SortFunc(list, edge.compare)
	return list
}

// ridgeOrHip returns the kind of an edge with these ends.
func ridgeOrHip(ends []space.Vector) string {
	for p, q := range around(ends) {
		if p[2].Compare(q[2]) != 0 {
			return "hip"
		}
	}
	return "ridge"
}

// Edges returns the edges of a wing.
func Edges(w api.Wing) ([]Edge, api.Errno) {
	r, e := readWing(w)
	if e != api.OK {
		return nil, e
	}
	return convertAll(edge.write, r.edges())
}

// Valleys returns the valleys of two wings.
func Valleys(a, b api.Wing) ([]Edge, api.Errno) {
	r, errA := readWing(a)
	q, errB := readWing(b)
	if e := cmp.Or(errA, errB); e != api.OK {
		return nil, e
	}
	return convertAll(edge.write, valleys(r, q))
}

// valleys returns the valleys of two wings, sorted.
func valleys(a, b wing) edges {
	var list edges
	facets := a.facets()
	below := slices.Concat(b.walls(), b.planes())
	for s := range a.sloped() {
		for t := range b.sloped() {
			if isSame(s.plane, t.plane) {
				continue
			}
			// What is in one of the planes of a wing, and under this wing, is in the facet of the plane.
			line := cutAll(facets[s.number], t.plane, t.plane.Opposite())
			list.add("valley", s, t, cutAll(line, below...))
		}
	}
	return list
}

// isSame reports whether two planes of wings are the same.
func isSame(h, g space.Half) bool {
	return h.N.Minus(g.N).IsZero() && h.D.Compare(g.D) == 0
}
