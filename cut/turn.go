package cut

import (
	"cmp"

	"trunnel/api"
	"trunnel/joint"
	"trunnel/space"
)

// Turn returns the list for the member that is turned end for end.
func Turn(m api.Member, l []api.Cut) (api.Member, []api.Cut, api.Errno) {
	errM := joint.CheckMember(m)
	steps, errL := readList(l)
	if e := cmp.Or(errM, errL); e != api.OK {
		return api.Member{}, nil, e
	}
	size := vector(m.Size)
	frame, errF := turnFrame(systemOf(m.Frame), size)
	turned, errC := each(steps, func(s step) (api.Cut, api.Errno) { return s.turned(size) })
	if e := cmp.Or(errF, errC); e != api.OK {
		return api.Member{}, nil, e
	}
	return api.Member{Name: m.Name, Frame: frame, Size: m.Size}, turned, api.OK
}

// turnFrame returns the frame of a turned member of a size, or ErrLarge.
func turnFrame(s system, size space.Vector) (api.Frame, api.Errno) {
	x, y := s.axes[0], s.axes[1]
	origin := s.origin.Plus(x.Scaled(size[0])).Plus(y.Scaled(size[1]))
	texts, e := each([]space.Vector{origin, x.Negated(), y.Negated(), s.axes[2]}, space.Vector.Write)
	if e != api.OK {
		return api.Frame{}, e
	}
	return api.Frame{Origin: texts[0], X: texts[1], Y: texts[2], Z: texts[3]}, api.OK
}

// turned returns a cut on a turned member of a size, or ErrLarge.
func (s step) turned(size space.Vector) (api.Cut, api.Errno) {
	numbers, e := each(turnShape(s.shape, size), space.Number.Write)
	if e != api.OK {
		return api.Cut{}, e
	}
	return api.Cut{Kind: s.kind, Face: sides[sides[s.face].turned].name, Numbers: numbers}, api.OK
}

// turnShape returns the numbers of a shape on a turned member of a size.
func turnShape(s shape, size space.Vector) []space.Number {
	switch s := s.(type) {
	case saw:
		return fours(turnHalf(space.Half(s), size))
	case slot:
		x, y := turnEnds(s[0], size[0]), turnEnds(s[1], size[1])
		return []space.Number{x[0], x[1], y[0], y[1], s[2][0], s[2][1]}
	case bore:
		y := turnEnds([2]space.Number{s.y0, s.y1}, size[1])
		return []space.Number{size[0].Minus(s.x), s.z, s.r, y[0], y[1]}
	case pocket:
		var numbers []space.Number
		for _, h := range s {
			numbers = append(numbers, fours(turnHalf(h, size))...)
		}
		return numbers
	}
	return nil
}

// turnHalf returns a half-space of coordinates in those of a turned member of a size.
func turnHalf(h space.Half, size space.Vector) space.Half {
	a, b := h.N[0], h.N[1]
	return space.Half{
		N: space.Vector{a.Negated(), b.Negated(), h.N[2]},
		D: h.D.Minus(a.Times(size[0])).Minus(b.Times(size[1])),
	}
}

// turnEnds returns where something begins and ends, seen from the other end of a length.
func turnEnds(ends [2]space.Number, length space.Number) [2]space.Number {
	return [2]space.Number{length.Minus(ends[1]), length.Minus(ends[0])}
}
