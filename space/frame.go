package space

import (
	"iter"

	"trunnel/api"
)

// frame is a system of coordinates with numbers of any size: its axes are orthogonal, and none of them is 0.
type frame struct {
	origin Vector
	axis   [3]Vector
}

// axes goes through the axes of a frame, with their numbers.
func axes(f api.Frame) iter.Seq2[int, api.Vec] {
	return func(yield func(int, api.Vec) bool) {
		for i, axis := range [3]api.Vec{f.X, f.Y, f.Z} {
			if !yield(i, axis) {
				return
			}
		}
	}
}

// readFrame returns the frame of texts, and the error of CheckFrame.
func readFrame(f api.Frame) (frame, api.Errno) {
	origin, e := ReadVec(f.Origin)
	r := frame{origin: origin}
	for i, text := range axes(f) {
		axis, errAxis := ReadVec(text)
		r.axis[i] = axis
		e = first(e, errAxis)
	}
	if e != api.OK {
		return frame{}, e
	}
	return r, r.check()
}

// check returns the error of axes that are 0, not orthogonal, or turned the wrong way.
func (f frame) check() api.Errno {
	for _, axis := range f.axis {
		if axis.IsZero() {
			return api.ErrZero
		}
	}
	if !f.isOrthogonal() || f.axis[0].Dot(f.axis[1].Cross(f.axis[2])).Sign() < 0 {
		return api.ErrFrame
	}
	return api.OK
}

// isOrthogonal reports whether any two axes have the scalar product 0.
func (f frame) isOrthogonal() bool {
	for i, axis := range f.axis {
		if !axis.Dot(f.axis[(i+1)%3]).IsZero() {
			return false
		}
	}
	return true
}

// write returns the texts of a frame, or ErrLarge.
func (f frame) write() (api.Frame, api.Errno) {
	origin, errOrigin := f.origin.Write()
	x, errX := f.axis[0].Write()
	y, errY := f.axis[1].Write()
	z, errZ := f.axis[2].Write()
	if e := first(errOrigin, errX, errY, errZ); e != api.OK {
		return api.Frame{}, e
	}
	return api.Frame{Origin: origin, X: x, Y: y, Z: z}, api.OK
}

// writeOrthogonal is write, but ErrFrame for axes that are not orthogonal.
func (f frame) writeOrthogonal() (api.Frame, api.Errno) {
	if !f.isOrthogonal() {
		return api.Frame{}, api.ErrFrame
	}
	return f.write()
}

// squares returns the squared lengths of the axes.
func (f frame) squares() Vector { return each(Vector.Square, f.axis) }

// lead returns the vector whose multiples of the axes are the coordinates of v.
func (f frame) lead(v Vector) Vector {
	sum := f.axis[0].Scaled(v[0])
	for i := 1; i < 3; i++ {
		sum = sum.Plus(f.axis[i].Scaled(v[i]))
	}
	return sum
}

// multiples returns the multiples of the axes that lead along v.
func (f frame) multiples(v Vector) Vector {
	return join(Number.Over, each(v.Dot, f.axis), f.squares())
}

// place returns the point with the coordinates p.
func (f frame) place(p Vector) Vector { return f.origin.Plus(f.lead(p)) }

// local returns the coordinates of the point p.
func (f frame) local(p Vector) Vector { return f.multiples(p.Minus(f.origin)) }

// units returns the axes of space.
func units() [3]Vector {
	return each(Integers, [3][3]int{{1, 0, 0}, {0, 1, 0}, {0, 0, 1}})
}

// CheckFrame returns the first error of a frame, or OK.
func CheckFrame(f api.Frame) api.Errno {
	_, e := readFrame(f)
	return e
}

// Place returns the point with some coordinates in a frame.
func Place(f api.Frame, p api.Vec) (api.Vec, api.Errno) {
	r, q, e := readBoth(readFrame, f, ReadVec, p)
	if e != api.OK {
		return api.Vec{}, e
	}
	return r.place(q).Write()
}

// Local returns the coordinates of a point in a frame.
func Local(f api.Frame, p api.Vec) (api.Vec, api.Errno) {
	r, q, e := readBoth(readFrame, f, ReadVec, p)
	if e != api.OK {
		return api.Vec{}, e
	}
	return r.local(q).Write()
}

// PlaceHalf returns the half-space whose coordinates in a frame are those of a half-space.
func PlaceHalf(f api.Frame, h api.Half) (api.Half, api.Errno) {
	r, s, e := readBoth(readFrame, f, ReadHalf, h)
	if e != api.OK {
		return api.Half{}, e
	}
	// A coordinate is the product with an axis over its square, so these make the normal of space.
	n := r.lead(join(Number.Over, s.N, r.squares()))
	return Half{n, s.D.Plus(n.Dot(r.origin))}.Write()
}

// LocalHalf returns a half-space in the coordinates of a frame.
func LocalHalf(f api.Frame, h api.Half) (api.Half, api.Errno) {
	r, s, e := readBoth(readFrame, f, ReadHalf, h)
	if e != api.OK {
		return api.Half{}, e
	}
	return Half{each(s.N.Dot, r.axis), s.Excess(r.origin).Negated()}.Write()
}

// Compose returns the frame that places as g and then as f.
func Compose(f, g api.Frame) (api.Frame, api.Errno) {
	r, s, e := readBoth(readFrame, f, readFrame, g)
	if e != api.OK {
		return api.Frame{}, e
	}
	return frame{r.place(s.origin), each(r.lead, s.axis)}.writeOrthogonal()
}

// Inverse returns the frame that undoes a frame.
func Inverse(f api.Frame) (api.Frame, api.Errno) {
	r, e := readFrame(f)
	if e != api.OK {
		return api.Frame{}, e
	}
	return frame{r.local(Integers([3]int{})), each(r.multiples, units())}.writeOrthogonal()
}

// Turn returns the frame that is turned by a quaternion.
func Turn(q [4]api.Rat) (api.Frame, api.Errno) {
	w, u, e := readBoth(ReadNumber, q[0], ReadVec, api.Vec{q[1], q[2], q[3]})
	if e != api.OK {
		return api.Frame{}, e
	}
	if w.IsZero() && u.IsZero() {
		return api.Frame{}, api.ErrZero
	}
	turn := func(v Vector) Vector { return turned(w, u, v) }
	return frame{Integers([3]int{}), each(turn, units())}.write()
}

// turned returns v turned by the rotation with the quaternion of w and u, not both of which are 0.
func turned(w Number, u, v Vector) Vector {
	two, long, short := Integer(2), w.Times(w), u.Square()
	sum := v.Scaled(long.Minus(short))
	sum = sum.Plus(u.Cross(v).Scaled(two.Times(w)))
	sum = sum.Plus(u.Scaled(two.Times(u.Dot(v))))
	return sum.Scaled(Integer(1).Over(long.Plus(short)))
}

// Shift returns a frame that is moved by a vector.
func Shift(f api.Frame, v api.Vec) (api.Frame, api.Errno) {
	r, way, e := readBoth(readFrame, f, ReadVec, v)
	if e != api.OK {
		return api.Frame{}, e
	}
	return frame{r.origin.Plus(way), r.axis}.write()
}

// Stretch returns the squared lengths of the axes of a frame.
func Stretch(f api.Frame) (api.Vec, api.Errno) {
	r, e := readFrame(f)
	if e != api.OK {
		return api.Vec{}, e
	}
	return r.squares().Write()
}
