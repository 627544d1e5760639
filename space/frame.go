package space

import (
	"iter"

	"trunnel/api"
)

// frame is a system of coordinates with numbers of any size: its axes are orthogonal, and none of them is 0.
type frame struct {
	origin vector
	axis   [3]vector
}

// axes goes through the axes of a frame, with their numbers.
func axes(f api.Frame) iter.Seq2[int, api.Vec] {
	return func(yield func(int, api.Vec) bool) {
		for i, axis := range [3]api.Vec{f.X, f.Y, f.Z} {
			if !yield(i, axis) {
				return
			}
		}
	}
}

// readFrame returns the frame of texts, and the error of CheckFrame.
func readFrame(f api.Frame) (frame, api.Errno) {
	origin, e := readVec(f.Origin)
	r := frame{origin: origin}
	for i, text := range axes(f) {
		axis, errAxis := readVec(text)
		r.axis[i] = axis
		e = first(e, errAxis)
	}
	if e != api.OK {
		return frame{}, e
	}
	return r, r.check()
}

// check returns the error of axes that are 0, not orthogonal, or turned the wrong way.
func (f frame) check() api.Errno {
	for _, axis := range f.axis {
		if axis.isZero() {
			return api.ErrZero
		}
	}
	if !f.isOrthogonal() || f.axis[0].dot(f.axis[1].cross(f.axis[2])).negative {
		return api.ErrFrame
	}
	return api.OK
}

// isOrthogonal reports whether any two axes have the scalar product 0.
func (f frame) isOrthogonal() bool {
	for i, axis := range f.axis {
		if !axis.dot(f.axis[(i+1)%3]).isZero() {
			return false
		}
	}
	return true
}

// write returns the texts of a frame, or ErrLarge.
func (f frame) write() (api.Frame, api.Errno) {
	origin, errOrigin := f.origin.write()
	x, errX := f.axis[0].write()
	y, errY := f.axis[1].write()
	z, errZ := f.axis[2].write()
	if e := first(errOrigin, errX, errY, errZ); e != api.OK {
		return api.Frame{}, e
	}
	return api.Frame{Origin: origin, X: x, Y: y, Z: z}, api.OK
}

// writeOrthogonal is write, but ErrFrame for axes that are not orthogonal.
func (f frame) writeOrthogonal() (api.Frame, api.Errno) {
	if !f.isOrthogonal() {
		return api.Frame{}, api.ErrFrame
	}
	return f.write()
}

// squares returns the squared lengths of the axes.
func (f frame) squares() vector { return each(vector.square, f.axis) }

// lead returns the vector whose multiples of the axes are the coordinates of v.
func (f frame) lead(v vector) vector {
	sum := f.axis[0].scaled(v[0])
	for i := 1; i < 3; i++ {
		sum = sum.plus(f.axis[i].scaled(v[i]))
	}
	return sum
}

// multiples returns the multiples of the axes that lead along v.
func (f frame) multiples(v vector) vector {
	return join(number.over, each(v.dot, f.axis), f.squares())
}

// place returns the point with the coordinates p.
func (f frame) place(p vector) vector { return f.origin.plus(f.lead(p)) }

// local returns the coordinates of the point p.
func (f frame) local(p vector) vector { return f.multiples(p.minus(f.origin)) }

// units returns the axes of space.
func units() [3]vector {
	return each(integers, [3][3]int{{1, 0, 0}, {0, 1, 0}, {0, 0, 1}})
}

// CheckFrame returns the first error of a frame, or OK.
func CheckFrame(f api.Frame) api.Errno {
	_, e := readFrame(f)
	return e
}

// Place returns the point with some coordinates in a frame.
func Place(f api.Frame, p api.Vec) (api.Vec, api.Errno) {
	r, q, e := readBoth(readFrame, f, readVec, p)
	if e != api.OK {
		return api.Vec{}, e
	}
	return r.place(q).write()
}

// Local returns the coordinates of a point in a frame.
func Local(f api.Frame, p api.Vec) (api.Vec, api.Errno) {
	r, q, e := readBoth(readFrame, f, readVec, p)
	if e != api.OK {
		return api.Vec{}, e
	}
	return r.local(q).write()
}

// PlaceHalf returns the half-space whose coordinates in a frame are those of a half-space.
func PlaceHalf(f api.Frame, h api.Half) (api.Half, api.Errno) {
	r, s, e := readBoth(readFrame, f, readHalf, h)
	if e != api.OK {
		return api.Half{}, e
	}
	// A coordinate is the product with an axis over its square, so these make the normal of space.
	n := r.lead(join(number.over, s.n, r.squares()))
	return half{n, s.d.plus(n.dot(r.origin))}.write()
}

// LocalHalf returns a half-space in the coordinates of a frame.
func LocalHalf(f api.Frame, h api.Half) (api.Half, api.Errno) {
	r, s, e := readBoth(readFrame, f, readHalf, h)
	if e != api.OK {
		return api.Half{}, e
	}
	return half{each(s.n.dot, r.axis), s.excess(r.origin).negated()}.write()
}

// Compose returns the frame that places as g and then as f.
func Compose(f, g api.Frame) (api.Frame, api.Errno) {
	r, s, e := readBoth(readFrame, f, readFrame, g)
	if e != api.OK {
		return api.Frame{}, e
	}
	return frame{r.place(s.origin), each(r.lead, s.axis)}.writeOrthogonal()
}

// Inverse returns the frame that undoes a frame.
func Inverse(f api.Frame) (api.Frame, api.Errno) {
	r, e := readFrame(f)
	if e != api.OK {
		return api.Frame{}, e
	}
	return frame{r.local(integers([3]int{})), each(r.multiples, units())}.writeOrthogonal()
}

// Turn returns the frame that is turned by a quaternion.
func Turn(q [4]api.Rat) (api.Frame, api.Errno) {
	w, u, e := readBoth(read, q[0], readVec, api.Vec{q[1], q[2], q[3]})
	if e != api.OK {
		return api.Frame{}, e
	}
	if w.isZero() && u.isZero() {
		return api.Frame{}, api.ErrZero
	}
	turn := func(v vector) vector { return turned(w, u, v) }
	return frame{integers([3]int{}), each(turn, units())}.write()
}

// turned returns v turned by the rotation with the quaternion of w and u, not both of which are 0.
func turned(w number, u, v vector) vector {
	two, long, short := integer(2), w.times(w), u.square()
	sum := v.scaled(long.minus(short))
	sum = sum.plus(u.cross(v).scaled(two.times(w)))
	sum = sum.plus(u.scaled(two.times(u.dot(v))))
	return sum.scaled(integer(1).over(long.plus(short)))
}

// Shift returns a frame that is moved by a vector.
func Shift(f api.Frame, v api.Vec) (api.Frame, api.Errno) {
	r, way, e := readBoth(readFrame, f, readVec, v)
	if e != api.OK {
		return api.Frame{}, e
	}
	return frame{r.origin.plus(way), r.axis}.write()
}

// Stretch returns the squared lengths of the axes of a frame.
func Stretch(f api.Frame) (api.Vec, api.Errno) {
	r, e := readFrame(f)
	if e != api.OK {
		return api.Vec{}, e
	}
	return r.squares().write()
}
