package roof

import (
	"cmp"
	"slices"

	"trunnel/api"
	"trunnel/space"
)

// Rafters returns the rafters on the facet of a side.
func Rafters(w api.Wing, side int, first, spacing api.Rat) ([][2]api.Vec, api.Errno) {
	r, errWing := readWing(w)
	s, errSide := r.find(side)
	start, errFirst := space.ReadNumber(first)
	step, errSpacing := space.ReadNumber(spacing)
	if e := cmp.Or(errWing, errSide, errFirst, errSpacing); e != api.OK {
		return nil, e
	}
	if start.Sign() < 0 || step.Sign() <= 0 {
		return nil, api.ErrRange
	}
	distances, e := s.distances(start, step)
	if e != api.OK {
		return nil, e
	}
	facet := r.facets()[side]
	return convertAll(func(distance space.Number) ([2]api.Vec, api.Errno) {
		return s.rafter(facet, distance)
	}, distances)
}

// distances returns the distances of rafters from the beginning of a side, or ErrMany.
func (s side) distances(first, spacing space.Number) ([]space.Number, api.Errno) {
	var distances []space.Number
	for distance := first; distance.Compare(s.length) < 0; distance = distance.Plus(spacing) {
		if distance.IsZero() {
			continue
		}
		if len(distances) == api.MaxList {
			return nil, api.ErrMany
		}
		distances = append(distances, distance)
	}
	return distances, api.OK
}

// rafter returns the ends of a rafter, or ErrLarge: the lowest and the highest point that the facet of a
// side has in the plane at right angles to the eave, at a distance from its beginning.
func (s side) rafter(facet polygon, distance space.Number) ([2]api.Vec, api.Errno) {
	across := space.Half{N: s.way()}
	across.D = across.N.Dot(s.from).Plus(distance.Times(s.length))
	line := cutAll(facet, across, across.Opposite())
	low, errLow := slices.MinFunc(line, compareHeights).Write()
	high, errHigh := slices.MaxFunc(line, compareHeights).Write()
	return [2]api.Vec{low, high}, cmp.Or(errLow, errHigh)
}

// compareHeights compares points by their z.
func compareHeights(p, q space.Vector) int { return p[2].Compare(q[2]) }

// Axis returns the frame of a rafter.
func Axis(from, to api.Vec) (api.Frame, api.Errno) {
	begin, errFrom := space.ReadVec(from)
	end, errTo := space.ReadVec(to)
	if e := cmp.Or(errFrom, errTo); e != api.OK {
		return api.Frame{}, e
	}
	x := end.Minus(begin)
	y := left(x)
	if y.IsZero() {
		return api.Frame{}, api.ErrNone
	}
	vectors, e := convertAll(space.Vector.Write, []space.Vector{begin, x, y, x.Cross(y)})
	if e != api.OK {
		return api.Frame{}, e
	}
	return api.Frame{Origin: vectors[0], X: vectors[1], Y: vectors[2], Z: vectors[3]}, api.OK
}
