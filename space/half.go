package space

import "trunnel/api"

// Half is the set of the points whose scalar product with N, which is not 0, is at most D. Its numbers are of any size.
type Half struct {
	N Vector
	D Number
}

// ReadHalf returns the half-space of api's form, and the error of CheckHalf.
func ReadHalf(h api.Half) (Half, api.Errno) {
	d, errD := ReadNumber(h.D)
	return Half{Integers(h.N), d}, first(checkNormal(h.N), errD)
}

// checkNormal returns the first error of a normal, or OK.
func checkNormal(n [3]int) api.Errno {
	if n == [3]int{} {
		return api.ErrZero
	}
	var common uint64
	for _, x := range n {
		if x < -api.MaxNumber || x > api.MaxNumber {
			return api.ErrRange
		}
		common = gcdWords(common, uint64(max(x, -x)))
	}
	if common != 1 {
		return api.ErrForm
	}
	return api.OK
}

// Reduced returns the one form of a half-space, with numbers of any size.
func (h Half) Reduced() Half {
	factor := h.N.whole()
	return Half{h.N.Scaled(factor), h.D.Times(factor)}
}

// Write returns the one form of a half-space, or ErrLarge.
func (h Half) Write() (api.Half, api.Errno) {
	reduced := h.Reduced()
	d, e := reduced.D.Write()
	if e != api.OK {
		return api.Half{}, e
	}
	var n [3]int
	for i, x := range reduced.N {
		if x.large != nil || magnitude(x.num) > api.MaxNumber {
			return api.Half{}, api.ErrLarge
		}
		n[i] = int(x.num)
	}
	return api.Half{N: n, D: d}, api.OK
}

// whole returns the number above 0 that makes the coordinates of a, which is not 0, integers without a common divisor above 1.
func (a Vector) whole() Number {
	var nums natural
	dens := naturalOf(1)
	for _, coordinate := range a {
		if coordinate.IsZero() {
			continue
		}
		x := coordinate.fraction()
		nums = gcd(x.num, nums)
		more, _ := x.den.divide(gcd(x.den, dens))
		dens = dens.times(more)
	}
	return ratio(false, dens, nums).number()
}

// Opposite returns the other side of the same plane.
func (h Half) Opposite() Half { return Half{h.N.Negated(), h.D.Negated()} }

// Excess returns by how much the scalar product of N and p is above D.
func (h Half) Excess(p Vector) Number { return h.N.Dot(p).Minus(h.D) }

// toPlane returns the shortest way from a point to the plane.
func (h Half) toPlane(p Vector) Vector {
	return h.N.Scaled(h.Excess(p).Negated().Over(h.N.Square()))
}

// Crossing returns the point that is common to the planes of h, a and b, and whether there is just one.
func (h Half) Crossing(a, b Half) (Vector, bool) {
	// Each of these is the direction of the line in which two of the planes cross.
	ab, bh, ha := a.N.Cross(b.N), b.N.Cross(h.N), h.N.Cross(a.N)
	volume := h.N.Dot(ab)
	if volume.IsZero() {
		return Vector{}, false
	}
	sum := ab.Scaled(h.D).Plus(bh.Scaled(a.D)).Plus(ha.Scaled(b.D))
	return sum.Scaled(Integer(1).Over(volume)), true
}

// CheckHalf returns the first error of a half-space, or OK.
func CheckHalf(h api.Half) api.Errno {
	_, e := ReadHalf(h)
	return e
}

// MakeHalf returns the half-space n.x <= d.
func MakeHalf(n api.Vec, d api.Rat) (api.Half, api.Errno) {
	x, y, e := readBoth(ReadVec, n, ReadNumber, d)
	if e != api.OK {
		return api.Half{}, e
	}
	if x.IsZero() {
		return api.Half{}, api.ErrZero
	}
	return Half{x, y}.Write()
}

// Opposite returns the other side of a half-space.
func Opposite(h api.Half) (api.Half, api.Errno) {
	r, e := ReadHalf(h)
	if e != api.OK {
		return api.Half{}, e
	}
	return r.Opposite().Write()
}

// Side returns -1 for a point inside, 0 on the plane, and 1 outside.
func Side(h api.Half, p api.Vec) (int, api.Errno) {
	r, q, e := readBoth(ReadHalf, h, ReadVec, p)
	if e != api.OK {
		return 0, e
	}
	return r.Excess(q).Sign(), api.OK
}

// Through returns the half-space whose plane goes through three points.
func Through(a, b, c api.Vec) (api.Half, api.Errno) {
	x, y, errAB := readBoth(ReadVec, a, ReadVec, b)
	z, errC := ReadVec(c)
	if e := first(errAB, errC); e != api.OK {
		return api.Half{}, e
	}
	n := y.Minus(x).Cross(z.Minus(x))
	if n.IsZero() {
		return api.Half{}, api.ErrNone
	}
	return Half{n, n.Dot(x)}.Write()
}

// Crossing returns the common point of three planes.
func Crossing(a, b, c api.Half) (api.Vec, api.Errno) {
	x, y, errAB := readBoth(ReadHalf, a, ReadHalf, b)
	z, errC := ReadHalf(c)
	if e := first(errAB, errC); e != api.OK {
		return api.Vec{}, e
	}
	p, ok := x.Crossing(y, z)
	if !ok {
		return api.Vec{}, api.ErrNone
	}
	return p.Write()
}

// Meet returns the point of a line on a plane.
func Meet(h api.Half, p, d api.Vec) (api.Vec, api.Errno) {
	r, q, errHP := readBoth(ReadHalf, h, ReadVec, p)
	way, errD := ReadVec(d)
	if e := first(errHP, errD); e != api.OK {
		return api.Vec{}, e
	}
	climb := r.N.Dot(way)
	if climb.IsZero() {
		return api.Vec{}, api.ErrNone
	}
	return q.Minus(way.Scaled(r.Excess(q).Over(climb))).Write()
}

// Project returns the foot of a point on a plane.
func Project(h api.Half, p api.Vec) (api.Vec, api.Errno) {
	r, q, e := readBoth(ReadHalf, h, ReadVec, p)
	if e != api.OK {
		return api.Vec{}, e
	}
	return q.Plus(r.toPlane(q)).Write()
}

// Distance returns the squared distance of a point from a plane.
func Distance(h api.Half, p api.Vec) (api.Rat, api.Errno) {
	r, q, e := readBoth(ReadHalf, h, ReadVec, p)
	if e != api.OK {
		return "", e
	}
	return r.toPlane(q).Square().Write()
}

// Mirror returns the mirror image of a point at a plane.
func Mirror(h api.Half, p api.Vec) (api.Vec, api.Errno) {
	r, q, e := readBoth(ReadHalf, h, ReadVec, p)
	if e != api.OK {
		return api.Vec{}, e
	}
	return q.Plus(r.toPlane(q).Scaled(Integer(2))).Write()
}
