package solid

import (
	"cmp"
	"slices"

	"trunnel/api"
	"trunnel/space"
)

// operate returns what an operation makes of the bodies of two solids.
func operate(operation func(a, b Bodies) Bodies, a, b api.Solid) (api.Solid, api.Errno) {
	p, q, e := readSolids(a, b)
	if e != api.OK {
		return nil, e
	}
	return operation(p, q).Write()
}

// And returns what two solids have in common.
func And(a, b api.Solid) (api.Solid, api.Errno) { return operate(Bodies.And, a, b) }

// Minus returns what is left of a solid without another one.
func Minus(a, b api.Solid) (api.Solid, api.Errno) { return operate(Bodies.Minus, a, b) }

// Union returns the union of two solids.
func Union(a, b api.Solid) (api.Solid, api.Errno) {
	unite := func(a, b Bodies) Bodies { return slices.Concat(a, b.Minus(a)) }
	return operate(unite, a, b)
}

// And returns the common bodies of each body of a with each one of b.
func (a Bodies) And(b Bodies) Bodies {
	var all Bodies
	for _, p := range a {
		for _, q := range b {
			if both, ok := common(p, q); ok {
				all = append(all, both)
			}
		}
	}
	return all
}

// Minus returns what is left of a behind all bodies of b.
func (a Bodies) Minus(b Bodies) Bodies {
	left := a
	for _, q := range b {
		left = without(left, q)
	}
	return left
}

// without returns what is left of bodies behind one body: for each half-space of q in order
// the part that is outside of it, and inside of those before it.
func without(bodies Bodies, q body) Bodies {
	var left Bodies
pieces:
	for _, p := range bodies {
		if areApart(p, q) {
			left = append(left, p)
			continue
		}
		rest, parts := p, []body(nil)
		for _, f := range q.facets {
			if part, ok := rest.cut(f.half.Opposite()); ok {
				parts = append(parts, part)
			}
			var ok bool
			if rest, ok = rest.cut(f.half); !ok { // they have nothing in common
				left = append(left, p)
				continue pieces
			}
		}
		left = append(left, parts...)
	}
	return left
}

// Same reports whether two solids are the same set.
func Same(a, b api.Solid) (bool, api.Errno) {
	p, q, e := readSolids(a, b)
	if e != api.OK {
		return false, e
	}
	// What both have in common is as large as either one only if neither one has more than that.
	both := p.And(q).Volume()
	return both.Compare(p.Volume()) == 0 && both.Compare(q.Volume()) == 0, api.OK
}

// Cut returns the part of a solid in a half-space.
func Cut(s api.Solid, h api.Half) (api.Solid, api.Errno) {
	bodies, r, e := readCut(s, h)
	if e != api.OK {
		return nil, e
	}
	return bodies.Cut(r).Write()
}

// readCut returns a solid and a half-space, and the first error of both.
func readCut(s api.Solid, h api.Half) (Bodies, space.Half, api.Errno) {
	bodies, errS := Read(s)
	r, errH := space.ReadHalf(h)
	return bodies, r, cmp.Or(errS, errH)
}

// Cut returns the parts of all bodies in a half-space.
func (b Bodies) Cut(h space.Half) Bodies {
	var parts Bodies
	for _, one := range b {
		if part, ok := one.cut(h); ok {
			parts = append(parts, part)
		}
	}
	return parts
}
