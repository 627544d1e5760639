package cut

import (
	"trunnel/api"
	"trunnel/space"
)

// system is the frame of a member, with numbers of any size.
type system struct {
	origin space.Vector
	axes   [3]space.Vector
}

// vector returns the vector of a text without errors.
func vector(text api.Vec) space.Vector {
	v, _ := space.ReadVec(text)
	return v
}

// systemOf returns a frame without errors.
func systemOf(f api.Frame) system {
	return system{vector(f.Origin), [3]space.Vector{vector(f.X), vector(f.Y), vector(f.Z)}}
}

// coordinate returns the coordinate of a point along an axis.
func (s system) coordinate(axis int, p space.Vector) space.Number {
	return p.Minus(s.origin).Dot(s.axes[axis]).Over(s.axes[axis].Square())
}

// local returns a half-space without errors in coordinates, in the form that its numbers have there.
func (s system) local(h api.Half) space.Half {
	r, _ := space.ReadHalf(h)
	var n space.Vector
	for i, axis := range s.axes {
		n[i] = r.N.Dot(axis)
	}
	return space.Half{N: n, D: r.Excess(s.origin).Negated()}
}
