package space

import "trunnel/api"

// vector is a vector, or a point, with coordinates of any size.
type vector [3]number

// integers returns the vector of three integers.
func integers(coordinates [3]int) vector { return each(integer, coordinates) }

// readVec returns the vector of a text, and the error of CheckVec.
func readVec(v api.Vec) (vector, api.Errno) {
	var r vector
	var errors [3]api.Errno
	for i, text := range v {
		r[i], errors[i] = read(text)
	}
	return r, first(errors[:]...)
}

// write returns the texts of a vector, or ErrLarge.
func (a vector) write() (api.Vec, api.Errno) {
	var v api.Vec
	for i, x := range a {
		text, e := x.write()
		if e != api.OK {
			return api.Vec{}, e
		}
		v[i] = text
	}
	return v, api.OK
}

func (a vector) isZero() bool {
	return a[0].isZero() && a[1].isZero() && a[2].isZero()
}

func (a vector) plus(b vector) vector { return join(number.plus, a, b) }

func (a vector) minus(b vector) vector { return join(number.minus, a, b) }

// scaled returns c times a.
func (a vector) scaled(c number) vector { return each(c.times, a) }

// dot returns the scalar product.
func (a vector) dot(b vector) number {
	products := join(number.times, a, b)
	return total(products[:]...)
}

// cross returns the vector product.
func (a vector) cross(b vector) vector {
	var c vector
	for i := range c {
		j, k := (i+1)%3, (i+2)%3
		c[i] = a[j].times(b[k]).minus(a[k].times(b[j]))
	}
	return c
}

// square returns the squared length.
func (a vector) square() number { return a.dot(a) }

// CheckVec returns the first error of a vector, or OK.
func CheckVec(v api.Vec) api.Errno {
	_, e := readVec(v)
	return e
}

// AddVec returns the sum of two vectors.
func AddVec(a, b api.Vec) (api.Vec, api.Errno) { return computeVec(vector.plus, a, b) }

// SubVec returns the difference of two vectors.
func SubVec(a, b api.Vec) (api.Vec, api.Errno) { return computeVec(vector.minus, a, b) }

// Cross returns the vector product of two vectors.
func Cross(a, b api.Vec) (api.Vec, api.Errno) { return computeVec(vector.cross, a, b) }

// computeVec returns the vector that an operation makes of two vectors.
func computeVec(operation func(a, b vector) vector, a, b api.Vec) (api.Vec, api.Errno) {
	x, y, e := readBoth(readVec, a, readVec, b)
	if e != api.OK {
		return api.Vec{}, e
	}
	return operation(x, y).write()
}

// Scale returns a number times a vector.
func Scale(c api.Rat, v api.Vec) (api.Vec, api.Errno) {
	x, y, e := readBoth(read, c, readVec, v)
	if e != api.OK {
		return api.Vec{}, e
	}
	return y.scaled(x).write()
}

// Dot returns the scalar product of two vectors.
func Dot(a, b api.Vec) (api.Rat, api.Errno) {
	x, y, e := readBoth(readVec, a, readVec, b)
	if e != api.OK {
		return "", e
	}
	return x.dot(y).write()
}

// Square returns the squared length of a vector.
func Square(v api.Vec) (api.Rat, api.Errno) {
	x, e := readVec(v)
	if e != api.OK {
		return "", e
	}
	return x.square().write()
}

// Along returns the number by which a vector becomes another one.
func Along(u, v api.Vec) (api.Rat, api.Errno) {
	x, y, e := readBoth(readVec, u, readVec, v)
	switch {
	case e != api.OK:
		return "", e
	case x.isZero():
		return "", api.ErrZero
	case !x.cross(y).isZero():
		return "", api.ErrNone
	}
	return y.dot(x).over(x.square()).write()
}
