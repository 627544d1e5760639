package draw

import (
	"cmp"
	"iter"
	"slices"

	"trunnel/api"
	"trunnel/solid"
	"trunnel/space"
)

// ascending returns the different ones of some numbers, in ascending order.
func ascending(numbers iter.Seq[space.Number]) []space.Number {
	list := slices.SortedFunc(numbers, space.Number.Compare)
	return slices.CompactFunc(list, func(a, b space.Number) bool { return a.Compare(b) == 0 })
}

// Chain returns the numbers of a chain of dimensions.
func Chain(s api.Solid, d api.Vec) ([]api.Rat, api.Errno) {
	bodies, errSolid := solid.Read(s)
	axis, errAxis := space.ReadVec(d)
	e := cmp.Or(errSolid, errAxis)
	switch {
	case e != api.OK:
		return nil, e
	case axis.IsZero():
		return nil, api.ErrZero
	case len(bodies) == 0:
		return nil, api.ErrEmpty
	}
	return each(ascending(func(yield func(space.Number) bool) {
		for p := range bodies.Corners() {
			if !yield(multiple(axis, p)) {
				return
			}
		}
	}), space.Number.Write)
}

// Steps returns the differences of a chain.
func Steps(chain []api.Rat) ([]api.Rat, api.Errno) {
	if len(chain) > api.MaxList {
		return nil, api.ErrMany
	}
	numbers, e := each(chain, space.ReadNumber)
	if e != api.OK {
		return nil, e
	}
	var steps []space.Number
	for i, number := range numbers {
		if i > 0 {
			steps = append(steps, number.Minus(numbers[i-1]))
		}
	}
	switch {
	case slices.ContainsFunc(steps, func(step space.Number) bool { return step.Sign() <= 0 }):
		return nil, api.ErrOrder
	case len(numbers) == 0:
		return nil, api.ErrEmpty
	}
	return each(steps, space.Number.Write)
}
