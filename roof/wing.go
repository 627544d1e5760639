package roof

import (
	"cmp"
	"iter"

	"trunnel/api"
	"trunnel/space"
)

// wing is a wing that was read: its sides.
type wing []side

// side is a side of a wing. Its numbers are of any size.
type side struct {
	number   int
	from, to space.Vector // at the height of the eaves
	slope    space.Number // 0: a gable
	length   space.Number // only of a side with a slope
	wall     space.Half   // the points on the inner side, at any height
	plane    space.Half   // the points that are not above the plane; its normal has the z 1. Only of a side with a slope.
}

func (s side) isGable() bool { return s.slope.IsZero() }

// way returns the way from the beginning of a side to its end.
func (s side) way() space.Vector { return s.to.Minus(s.from) }

// raised returns the point of the plane above a place.
func (s side) raised(place space.Vector) space.Vector {
	place[2] = space.Number{}
	place[2] = s.plane.Excess(place).Negated()
	return place
}

// sloped goes through the sides with slopes.
func (w wing) sloped() iter.Seq[side] {
	return func(yield func(side) bool) {
		for _, s := range w {
			if !s.isGable() && !yield(s) {
				return
			}
		}
	}
}

// height returns the height of the eaves.
func (w wing) height() space.Number { return w[0].from[2] }

// walls returns the half-spaces of the polygon of a wing.
func (w wing) walls() []space.Half {
	walls := make([]space.Half, len(w))
	for i, s := range w {
		walls[i] = s.wall
	}
	return walls
}

// planes returns the half-spaces below the planes of a wing.
func (w wing) planes() []space.Half {
	var planes []space.Half
	for s := range w.sloped() {
		planes = append(planes, s.plane)
	}
	return planes
}

// find returns a side with a slope by its number, or ErrUnknown.
func (w wing) find(number int) (side, api.Errno) {
	if number < 0 || number >= len(w) || w[number].isGable() {
		return side{}, api.ErrUnknown
	}
	return w[number], api.OK
}

// readRoof returns the wings of a roof, and the error of CheckRoof.
func readRoof(roof []api.Wing) ([]wing, api.Errno) {
	switch {
	case len(roof) == 0:
		return nil, api.ErrEmpty
	case len(roof) > api.MaxWings:
		return nil, api.ErrMany
	}
	wings := make([]wing, len(roof))
	for i, w := range roof {
		var e api.Errno
		if wings[i], e = readWing(w); e != api.OK {
			return nil, e
		}
	}
	return wings, api.OK
}

// readWing returns a wing, and the error of CheckWing.
func readWing(w api.Wing) (wing, api.Errno) {
	switch {
	case len(w.Corners) < 3 || len(w.Slopes) != len(w.Corners):
		return nil, api.ErrShape
	case len(w.Corners) > api.MaxEaves:
		return nil, api.ErrMany
	}
	corners, errCorners := convertAll(readPlace, w.Corners)
	height, errHeight := space.ReadNumber(w.Height)
	slopes, errSlopes := convertAll(readSlope, w.Slopes)
	if e := cmp.Or(errCorners, errHeight, errSlopes); e != api.OK {
		return nil, e
	}
	for i := range corners {
		corners[i][2] = height
	}
	r := make(wing, len(corners))
	for i := range r {
		r[i] = newSide(i, corners[i], corners[(i+1)%len(corners)], slopes[i])
	}
	if !r.isConvex() {
		return nil, api.ErrOrder
	}
	return r, r.addPlanes()
}

// readPlace returns a point in plan, with the z 0, and the error of its first number with one.
func readPlace(p [2]api.Rat) (space.Vector, api.Errno) {
	return space.ReadVec(api.Vec{p[0], p[1], "0"})
}

// readSlope returns a slope, and its error; 0 for a gable.
func readSlope(text api.Rat) (space.Number, api.Errno) {
	if text == "" {
		return space.Number{}, api.OK
	}
	slope, e := space.ReadNumber(text)
	if e == api.OK && slope.Sign() <= 0 {
		e = api.ErrRange
	}
	return slope, e
}

// newSide returns a side without its plane.
func newSide(number int, from, to space.Vector, slope space.Number) side {
	s := side{number: number, from: from, to: to, slope: slope}
	s.wall.N = left(s.way()).Negated()
	s.wall.D = s.wall.N.Dot(from)
	return s
}

// left returns what a vector has in plan, turned counterclockwise by a right angle.
func left(v space.Vector) space.Vector {
	return space.Vector{v[1].Negated(), v[0], space.Number{}}
}

// isConvex reports whether each corner is strictly on the inner side of all sides that do not end in it.
func (w wing) isConvex() bool {
	for _, s := range w {
		for i := range w[2:] {
			corner := w[(s.number+2+i)%len(w)].from
			if s.wall.Excess(corner).Sign() >= 0 {
				return false
			}
		}
	}
	return true
}

// addPlanes adds the planes of the sides with slopes. The error is ErrForm for a length that is not
// rational, and ErrEmpty if there are gables alone.
func (w wing) addPlanes() api.Errno {
	e := api.ErrEmpty
	for s := range w.sloped() {
		length, ok := s.way().Square().Root()
		if !ok {
			return api.ErrForm
		}
		s.length = length
		s.plane.N = s.wall.N.Scaled(s.slope.Over(length))
		s.plane.N[2] = space.Integer(1)
		s.plane.D = s.plane.N.Dot(s.from)
		w[s.number] = s
		e = api.OK
	}
	return e
}
