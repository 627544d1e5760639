package space

import "trunnel/api"

// Vector is a vector, or a point, with coordinates of any size.
type Vector [3]Number

// Integers returns the vector of three integers.
func Integers(coordinates [3]int) Vector { return each(Integer, coordinates) }

// ReadVec returns the vector of a text, and the error of CheckVec.
func ReadVec(v api.Vec) (Vector, api.Errno) {
	var r Vector
	var errors [3]api.Errno
	for i, text := range v {
		r[i], errors[i] = ReadNumber(text)
	}
	return r, first(errors[:]...)
}

// Write returns the texts of a vector, or ErrLarge.
func (a Vector) Write() (api.Vec, api.Errno) {
	var v api.Vec
	for i, x := range a {
		text, e := x.Write()
		if e != api.OK {
			return api.Vec{}, e
		}
		v[i] = text
	}
	return v, api.OK
}

func (a Vector) IsZero() bool {
	return a[0].IsZero() && a[1].IsZero() && a[2].IsZero()
}

func (a Vector) Plus(b Vector) Vector { return join(Number.Plus, a, b) }

func (a Vector) Minus(b Vector) Vector { return join(Number.Minus, a, b) }

// Negated returns the opposite vector.
func (a Vector) Negated() Vector { return each(Number.Negated, a) }

// Scaled returns c times a.
func (a Vector) Scaled(c Number) Vector { return each(c.Times, a) }

// Dot returns the scalar product.
func (a Vector) Dot(b Vector) Number {
	products := join(Number.Times, a, b)
	return total(products[:]...)
}

// Cross returns the vector product.
func (a Vector) Cross(b Vector) Vector {
	var c Vector
	for i := range c {
		j, k := (i+1)%3, (i+2)%3
		c[i] = a[j].Times(b[k]).Minus(a[k].Times(b[j]))
	}
	return c
}

// Square returns the squared length.
func (a Vector) Square() Number { return a.Dot(a) }

// CheckVec returns the first error of a vector, or OK.
func CheckVec(v api.Vec) api.Errno {
	_, e := ReadVec(v)
	return e
}

// AddVec returns the sum of two vectors.
func AddVec(a, b api.Vec) (api.Vec, api.Errno) { return computeVec(Vector.Plus, a, b) }

// SubVec returns the difference of two vectors.
func SubVec(a, b api.Vec) (api.Vec, api.Errno) { return computeVec(Vector.Minus, a, b) }

// Cross returns the vector product of two vectors.
func Cross(a, b api.Vec) (api.Vec, api.Errno) { return computeVec(Vector.Cross, a, b) }

// computeVec returns the vector that an operation makes of two vectors.
func computeVec(operation func(a, b Vector) Vector, a, b api.Vec) (api.Vec, api.Errno) {
	x, y, e := readBoth(ReadVec, a, ReadVec, b)
	if e != api.OK {
		return api.Vec{}, e
	}
	return operation(x, y).Write()
}

// Scale returns a number times a vector.
func Scale(c api.Rat, v api.Vec) (api.Vec, api.Errno) {
	x, y, e := readBoth(ReadNumber, c, ReadVec, v)
	if e != api.OK {
		return api.Vec{}, e
	}
	return y.Scaled(x).Write()
}

// Dot returns the scalar product of two vectors.
func Dot(a, b api.Vec) (api.Rat, api.Errno) {
	x, y, e := readBoth(ReadVec, a, ReadVec, b)
	if e != api.OK {
		return "", e
	}
	return x.Dot(y).Write()
}

// Square returns the squared length of a vector.
func Square(v api.Vec) (api.Rat, api.Errno) {
	x, e := ReadVec(v)
	if e != api.OK {
		return "", e
	}
	return x.Square().Write()
}

// Along returns the number by which a vector becomes another one.
func Along(u, v api.Vec) (api.Rat, api.Errno) {
	x, y, e := readBoth(ReadVec, u, ReadVec, v)
	switch {
	case e != api.OK:
		return "", e
	case x.IsZero():
		return "", api.ErrZero
	case !x.Cross(y).IsZero():
		return "", api.ErrNone
	}
	return y.Dot(x).Over(x.Square()).Write()
}
