package roof

import (
	"cmp"
	"slices"

	"trunnel/api"
	"trunnel/solid"
	"trunnel/space"
)

// Body returns the solid under a wing.
func Body(w api.Wing, base api.Rat) (api.Body, api.Errno) {
	r, errWing := readWing(w)
	floor, errBase := space.ReadNumber(base)
	if e := cmp.Or(errWing, errBase); e != api.OK {
		return nil, e
	}
	if !r.isAbove(floor) {
		return nil, api.ErrRange
	}
	return r.body(floor)
}

// isAbove reports whether the eaves of a wing are above a base.
func (w wing) isAbove(base space.Number) bool { return w.height().Compare(base) > 0 }

// halves returns the half-spaces of the solid under a wing.
func (w wing) halves(base space.Number) []space.Half {
	bottom := space.Half{N: space.Integers([3]int{0, 0, -1}), D: base.Negated()}
	return slices.Concat(w.walls(), []space.Half{bottom}, w.planes())
}

// body returns the solid under a wing.
func (w wing) body(base space.Number) (api.Body, api.Errno) {
	list, e := convertAll(space.Half.Write, w.halves(base))
	if e != api.OK {
		return nil, e
	}
	return solid.Normal(list)
}

// volume returns the volume under a wing, facet by facet: over each triangle stands a prism that is as
// high as the mean of its corners.
func (w wing) volume(base space.Number) space.Number {
	var six space.Number
	low := base.Times(space.Integer(3))
	facets := w.facets()
	for s := range w.sloped() {
		for t, double := range facets[s.number].triangles() {
			heights := t[0][2].Plus(t[1][2]).Plus(t[2][2])
			six = six.Plus(double.Times(heights.Minus(low)))
		}
	}
	return six.Over(space.Integer(6))
}

// Solid returns the solid under a roof.
func Solid(roof []api.Wing, base api.Rat) (api.Solid, api.Errno) {
	wings, floor, e := readAbove(roof, base)
	if e != api.OK {
		return nil, e
	}
	return unite(wings, floor)
}

// readAbove returns the wings of a roof above a base, the normals of which have no error.
func readAbove(roof []api.Wing, base api.Rat) ([]wing, space.Number, api.Errno) {
	wings, errRoof := readRoof(roof)
	floor, errBase := space.ReadNumber(base)
	if e := cmp.Or(errRoof, errBase); e != api.OK {
		return nil, floor, e
	}
	for _, w := range wings {
		if !w.isAbove(floor) {
			return nil, floor, api.ErrRange
		}
	}
	for _, w := range wings {
		if _, e := convertAll(normalOf, w.halves(floor)); e != api.OK {
			return nil, floor, e
		}
	}
	return wings, floor, api.OK
}

// unite returns the union of the solids under wings, wing by wing.
func unite(wings []wing, base space.Number) (api.Solid, api.Errno) {
	var united api.Solid
	for _, w := range wings {
		b, e := w.body(base)
		if e != api.OK {
			return nil, e
		}
		if united, e = solid.Union(united, api.Solid{b}); e != api.OK {
			return nil, e
		}
	}
	return united, api.OK
}

// Volume returns the volume under a roof.
func Volume(roof []api.Wing, base api.Rat) (api.Rat, api.Errno) {
	wings, floor, e := readAbove(roof, base)
	switch {
	case e != api.OK:
		return "", e
	case len(wings) == 1:
		// Only a union has limits: the half-spaces under one wing may have numbers of any size.
		return wings[0].volume(floor).Write()
	}
	united, e := unite(wings, floor)
	if e != api.OK {
		return "", e
	}
	return solid.Volume(united)
}
