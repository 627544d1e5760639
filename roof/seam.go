package roof

import (
	"cmp"

	"trunnel/api"
	"trunnel/space"
)

// seam is the line of two sides: the normals of their planes, and its direction.
type seam struct {
	normals [2]space.Vector
	way     space.Vector
}

// readSeam returns the line of two sides of a wing.
func readSeam(w api.Wing, i, j int) (seam, api.Errno) {
	r, errWing := readWing(w)
	one, errOne := r.find(i)
	other, errOther := r.find(j)
	if e := cmp.Or(errWing, errOne, errOther); e != api.OK {
		return seam{}, e
	}
	normals, e := convertAll(normalOf, []space.Half{one.plane, other.plane})
	if e != api.OK {
		return seam{}, e
	}
	way := normals[0].Cross(normals[1])
	switch cmp.Or(way[2].Sign(), way[0].Sign(), way[1].Sign()) {
	case 0:
		return seam{}, api.ErrNone
	case -1:
		way = way.Negated()
	}
	return seam{[2]space.Vector(normals), way}, api.OK
}

// normalOf returns the normal of a half-space in its one form, or ErrLarge.
func normalOf(h space.Half) (space.Vector, api.Errno) {
	written, e := space.Half{N: h.N}.Write()
	return space.Integers(written.N), e
}

// run returns the part of a vector in plan.
func run(v space.Vector) space.Vector {
	v[2] = space.Number{}
	return v
}

// square returns the square of a number.
func square(a space.Number) space.Number { return a.Times(a) }

// Line returns the direction of the line of two sides, and the square of its slope.
func Line(w api.Wing, i, j int) (api.Vec, api.Rat, api.Errno) {
	l, e := readSeam(w, i, j)
	if e != api.OK {
		return api.Vec{}, "", e
	}
	way, errWay := l.way.Write()
	slope, errSlope := square(l.way[2]).Over(run(l.way).Square()).Write()
	if e := cmp.Or(errWay, errSlope); e != api.OK {
		return api.Vec{}, "", e
	}
	return way, slope, api.OK
}

// Backing returns the squares of the tangents by which a hip rafter is bevelled.
func Backing(w api.Wing, i, j int) (api.Rat, api.Rat, api.Errno) {
	l, e := readSeam(w, i, j)
	switch {
	case e != api.OK:
		return "", "", e
	case l.way[2].IsZero():
		return "", "", api.ErrState
	}
	one, errOne := l.backing(0).Write()
	other, errOther := l.backing(1).Write()
	if e := cmp.Or(errOne, errOther); e != api.OK {
		return "", "", e
	}
	return one, other, api.OK
}

// backing returns the square of the tangent of the angle between the horizontal and the plane of a side,
// at right angles to a line that is not level.
func (l seam) backing(side int) space.Number {
	across := left(l.way)
	up := l.way.Cross(across)
	n := l.normals[side]
	return square(n.Dot(across).Over(n.Dot(up))).Times(up.Square()).Over(across.Square())
}

// Cheek returns the square of the tangent at which a jack rafter meets a hip.
func Cheek(w api.Wing, i, j int) (api.Rat, api.Errno) {
	l, e := readSeam(w, i, j)
	if e != api.OK {
		return "", e
	}
	up := wayUp(l.normals[0])
	along := up.Dot(l.way)
	if along.IsZero() {
		return "", api.ErrZero
	}
	return up.Cross(l.way).Square().Over(square(along)).Write()
}

// wayUp returns a vector that leads up a plane with this normal, at right angles to its level lines.
func wayUp(normal space.Vector) space.Vector {
	flat := run(normal)
	up := flat.Scaled(normal[2].Negated())
	up[2] = flat.Square()
	return up
}
