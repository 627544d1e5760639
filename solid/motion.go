package solid

import (
	"cmp"
	"iter"
	"slices"

	"trunnel/api"
	"trunnel/space"
)

// placeHalves returns the body whose coordinates in a frame are those of half-spaces, none of which is superfluous.
func placeHalves(f api.Frame, halves []api.Half) (api.Body, api.Errno) {
	b := make(api.Body, len(halves))
	for i, h := range halves {
		var e api.Errno
		if b[i], e = space.PlaceHalf(f, h); e != api.OK {
			return nil, e
		}
	}
	slices.SortFunc(b, compareNormals)
	return b, api.OK
}

// Move returns a solid that is placed by a frame.
func Move(s api.Solid, f api.Frame) (api.Solid, api.Errno) {
	if e := cmp.Or(CheckSolid(s), space.CheckFrame(f)); e != api.OK {
		return nil, e
	}
	moved := make(api.Solid, len(s))
	for i, b := range s {
		var e api.Errno
		if moved[i], e = placeHalves(f, b); e != api.OK {
			return nil, e
		}
	}
	return moved, api.OK
}

// edge is an edge of a body: its ends, and the half-spaces of its facets.
type edge struct {
	from, to    space.Vector
	left, right space.Half
}

// way returns the way along an edge.
func (e edge) way() space.Vector { return e.to.Minus(e.from) }

// edges goes through the edges of a body.
func (b body) edges() iter.Seq[edge] {
	beside := map[[2]int]space.Half{} // the facet along whose ring the edge leads this way
	for _, f := range b.facets {
		for i, j := range f.sides() {
			beside[[2]int{i, j}] = f.half
		}
	}
	return func(yield func(edge) bool) {
		for _, f := range b.facets {
			for i, j := range f.sides() {
				if i < j && !yield(edge{b.corners[i], b.corners[j], f.half, beside[[2]int{j, i}]}) {
					return
				}
			}
		}
	}
}

// Edges goes through the ends of the edges of all bodies.
func (b Bodies) Edges() iter.Seq2[space.Vector, space.Vector] {
	return func(yield func(from, to space.Vector) bool) {
		for _, one := range b {
			for e := range one.edges() {
				if !yield(e.from, e.to) {
					return
				}
			}
		}
	}
}

// Sweep returns what a body passes on its way along a vector.
func Sweep(b api.Body, v api.Vec) (api.Body, api.Errno) {
	r, errB := readBody(b)
	way, errV := space.ReadVec(v)
	if e := cmp.Or(errB, errV); e != api.OK {
		return nil, e
	}
	halves := r.path(way)
	for _, f := range r.facets {
		h := f.half
		if climb := h.N.Dot(way); climb.Sign() > 0 {
			h.D = h.D.Plus(climb)
			halves = append(halves, h)
		}
	}
	return writeBody(halves)
}

// path returns the half-spaces of all points that a body passes on its way along a vector, without an end:
// those of the facets out of which the vector does not lead, and those along the edges between these and the others.
func (b body) path(v space.Vector) []space.Half {
	var halves []space.Half
	for _, f := range b.facets {
		if f.half.N.Dot(v).Sign() <= 0 {
			halves = append(halves, f.half)
		}
	}
	for e := range b.edges() {
		if h, ok := e.along(v); ok {
			halves = append(halves, h)
		}
	}
	return halves
}

// Paths returns for each body the half-spaces of all points that it passes on its way along a vector, without an end.
func (b Bodies) Paths(v space.Vector) [][]space.Half {
	paths := make([][]space.Half, len(b))
	for i, one := range b {
		paths[i] = one.path(v)
	}
	return paths
}

// along returns the half-space of the body whose plane leads through an edge and along a vector,
// and whether the vector leads out of the body on one side of the edge alone, and into it on the other one.
func (e edge) along(v space.Vector) (space.Half, bool) {
	left, right := e.left.N.Dot(v), e.right.N.Dot(v)
	if left.Sign()*right.Sign() >= 0 {
		return space.Half{}, false
	}
	// With these weights the products with v cancel each other.
	ofLeft, ofRight := magnitude(right), magnitude(left)
	return space.Half{
		N: e.left.N.Scaled(ofLeft).Plus(e.right.N.Scaled(ofRight)),
		D: e.left.D.Times(ofLeft).Plus(e.right.D.Times(ofRight)),
	}, true
}

// magnitude returns the absolute value of a number.
func magnitude(x space.Number) space.Number {
	if x.Sign() < 0 {
		return x.Negated()
	}
	return x
}

// Separate returns a plane between two bodies.
func Separate(a, b api.Body) (api.Half, api.Errno) {
	p, errA := readBody(a)
	q, errB := readBody(b)
	if e := cmp.Or(errA, errB); e != api.OK {
		return api.Half{}, e
	}
	if h, ok := barrier(p, q); ok {
		return h.Write()
	}
	if h, ok := barrier(q, p); ok {
		return h.Opposite().Write()
	}
	if _, clash := common(p, q); clash {
		return api.Half{}, api.ErrClash
	}
	return between(p, q)
}

// between returns a half-space along an edge of each body, which separates bodies without common interior points
// that no plane of a facet separates. The error is ErrLarge if all of these have too large numbers.
func between(a, b body) (api.Half, api.Errno) {
	for ofA := range a.edges() {
		for ofB := range b.edges() {
			n := ofA.way().Cross(ofB.way())
			for _, n := range [2]space.Vector{n, n.Negated()} {
				_, high := extent(n, a)
				low, _ := extent(n, b)
				if n.IsZero() || low.Compare(high) < 0 {
					continue
				}
				if h, e := (space.Half{N: n, D: high}).Write(); e == api.OK {
					return h, api.OK
				}
			}
		}
	}
	return api.Half{}, api.ErrLarge
}
