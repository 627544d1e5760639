package space

import "trunnel/api"

// half is the set of the points whose scalar product with n, which is not 0, is at most d. Its numbers are of any size.
type half struct {
	n vector
	d number
}

// readHalf returns the half-space of api's form, and the error of CheckHalf.
func readHalf(h api.Half) (half, api.Errno) {
	d, errD := read(h.D)
	return half{integers(h.N), d}, first(checkNormal(h.N), errD)
}

// checkNormal returns the first error of a normal, or OK.
func checkNormal(n [3]int) api.Errno {
	if n == [3]int{} {
		return api.ErrZero
	}
	var common uint64
	for _, x := range n {
		if x < -api.MaxNumber || x > api.MaxNumber {
			return api.ErrRange
		}
		common = gcdWords(common, uint64(max(x, -x)))
	}
	if common != 1 {
		return api.ErrForm
	}
	return api.OK
}

// write returns the one form of a half-space, or ErrLarge.
func (h half) write() (api.Half, api.Errno) {
	factor := h.n.whole()
	d, e := h.d.times(factor).write()
	if e != api.OK {
		return api.Half{}, e
	}
	var n [3]int
	for i, x := range h.n.scaled(factor) {
		if x.num.compare(naturalOf(api.MaxNumber)) > 0 {
			return api.Half{}, api.ErrLarge
		}
		n[i] = x.sign() * int(x.num.low())
	}
	return api.Half{N: n, D: d}, api.OK
}

// whole returns the number above 0 that makes the coordinates of a, which is not 0, integers without a common divisor above 1.
func (a vector) whole() number {
	var nums natural
	dens := naturalOf(1)
	for _, x := range a {
		if x.isZero() {
			continue
		}
		nums = gcd(x.num, nums)
		more, _ := x.den.divide(gcd(x.den, dens))
		dens = dens.times(more)
	}
	return ratio(false, dens, nums)
}

// excess returns by how much the scalar product of n and p is above d.
func (h half) excess(p vector) number { return h.n.dot(p).minus(h.d) }

// toPlane returns the shortest way from a point to the plane.
func (h half) toPlane(p vector) vector {
	return h.n.scaled(h.excess(p).negated().over(h.n.square()))
}

// CheckHalf returns the first error of a half-space, or OK.
func CheckHalf(h api.Half) api.Errno {
	_, e := readHalf(h)
	return e
}

// MakeHalf returns the half-space n.x <= d.
func MakeHalf(n api.Vec, d api.Rat) (api.Half, api.Errno) {
	x, y, e := readBoth(readVec, n, read, d)
	if e != api.OK {
		return api.Half{}, e
	}
	if x.isZero() {
		return api.Half{}, api.ErrZero
	}
	return half{x, y}.write()
}

// Opposite returns the other side of a half-space.
func Opposite(h api.Half) (api.Half, api.Errno) {
	r, e := readHalf(h)
	if e != api.OK {
		return api.Half{}, e
	}
	return half{each(number.negated, r.n), r.d.negated()}.write()
}

// Side returns -1 for a point inside, 0 on the plane, and 1 outside.
func Side(h api.Half, p api.Vec) (int, api.Errno) {
	r, q, e := readBoth(readHalf, h, readVec, p)
	if e != api.OK {
		return 0, e
	}
	return r.excess(q).sign(), api.OK
}

// Through returns the half-space whose plane goes through three points.
func Through(a, b, c api.Vec) (api.Half, api.Errno) {
	x, y, errAB := readBoth(readVec, a, readVec, b)
	z, errC := readVec(c)
	if e := first(errAB, errC); e != api.OK {
		return api.Half{}, e
	}
	n := y.minus(x).cross(z.minus(x))
	if n.isZero() {
		return api.Half{}, api.ErrNone
	}
	return half{n, n.dot(x)}.write()
}

// Crossing returns the common point of three planes.
func Crossing(a, b, c api.Half) (api.Vec, api.Errno) {
	x, y, errAB := readBoth(readHalf, a, readHalf, b)
	z, errC := readHalf(c)
	if e := first(errAB, errC); e != api.OK {
		return api.Vec{}, e
	}
	// Each of these is the direction of the line in which two of the planes cross.
	yz, zx, xy := y.n.cross(z.n), z.n.cross(x.n), x.n.cross(y.n)
	volume := x.n.dot(yz)
	if volume.isZero() {
		return api.Vec{}, api.ErrNone
	}
	sum := yz.scaled(x.d).plus(zx.scaled(y.d)).plus(xy.scaled(z.d))
	return sum.scaled(integer(1).over(volume)).write()
}

// Meet returns the point of a line on a plane.
func Meet(h api.Half, p, d api.Vec) (api.Vec, api.Errno) {
	r, q, errHP := readBoth(readHalf, h, readVec, p)
	way, errD := readVec(d)
	if e := first(errHP, errD); e != api.OK {
		return api.Vec{}, e
	}
	climb := r.n.dot(way)
	if climb.isZero() {
		return api.Vec{}, api.ErrNone
	}
	return q.minus(way.scaled(r.excess(q).over(climb))).write()
}

// Project returns the foot of a point on a plane.
func Project(h api.Half, p api.Vec) (api.Vec, api.Errno) {
	r, q, e := readBoth(readHalf, h, readVec, p)
	if e != api.OK {
		return api.Vec{}, e
	}
	return q.plus(r.toPlane(q)).write()
}

// Distance returns the squared distance of a point from a plane.
func Distance(h api.Half, p api.Vec) (api.Rat, api.Errno) {
	r, q, e := readBoth(readHalf, h, readVec, p)
	if e != api.OK {
		return "", e
	}
	return r.toPlane(q).square().write()
}

// Mirror returns the mirror image of a point at a plane.
func Mirror(h api.Half, p api.Vec) (api.Vec, api.Errno) {
	r, q, e := readBoth(readHalf, h, readVec, p)
	if e != api.OK {
		return api.Vec{}, e
	}
	return q.plus(r.toPlane(q).scaled(integer(2))).write()
}
