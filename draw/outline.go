package draw

import (
	"cmp"
	"slices"

	"trunnel/api"
	"trunnel/solid"
	"trunnel/space"
)

// place is a place on the paper, or the way from one to another one.
type place [2]space.Number

// compare compares places by their first coordinates, and then by the second ones.
func (p place) compare(q place) int { return cmp.Or(p[0].Compare(q[0]), p[1].Compare(q[1])) }

func (p place) minus(q place) place { return place{p[0].Minus(q[0]), p[1].Minus(q[1])} }

// cross returns twice the area of the triangle between two ways, which is positive if the second one leads to the left
// of the first one.
func (p place) cross(q place) space.Number { return p[0].Times(q[1]).Minus(q[0].Times(p[1])) }

// turn returns 1 if the second one of two sides leads to the left of the first one, -1 if it leads to the right, and 0 otherwise.
func (p place) turn(q place) int { return p.cross(q).Sign() }

// readPlace returns a place, and the error of space.Check for its coordinates.
func readPlace(p [2]api.Rat) (place, api.Errno) {
	x, errX := space.ReadNumber(p[0])
	y, errY := space.ReadNumber(p[1])
	return place{x, y}, cmp.Or(errX, errY)
}

// write returns the texts of a place, or ErrLarge.
func (p place) write() ([2]api.Rat, api.Errno) {
	x, errX := p[0].Write()
	y, errY := p[1].Write()
	if e := cmp.Or(errX, errY); e != api.OK {
		return [2]api.Rat{}, e
	}
	return [2]api.Rat{x, y}, api.OK
}

// wrap returns what is left of a list of places if those are left out at which the sides between them do not turn left.
func wrap(list []place, turn func(a, b place) int) []place {
	var chain []place
	for _, p := range list {
		for n := len(chain); n >= 2 && turn(chain[n-1].minus(chain[n-2]), p.minus(chain[n-1])) <= 0; n-- {
			chain = chain[:n-1]
		}
		chain = append(chain, p)
	}
	return chain
}

// hull returns the corners of the convex hull of places that are not all on a line, counterclockwise from the first one on.
func hull(places []place) []place {
	list := slices.SortedFunc(slices.Values(places), place.compare)
	list = slices.CompactFunc(list, func(p, q place) bool { return p.compare(q) == 0 })
	below := wrap(list, place.turn)
	slices.Reverse(list)
	above := wrap(list, place.turn)
	// Each of both ends where the other one begins.
	return slices.Concat(below[:len(below)-1], above[:len(above)-1])
}

// area returns the area of a polygon.
func area(polygon []place) space.Number {
	var sum space.Number
	for i, p := range polygon {
		sum = sum.Plus(p.cross(polygon[(i+1)%len(polygon)]))
	}
	return sum.Over(space.Integer(2))
}

// Outline returns the hull of the places of a solid.
func Outline(s api.Solid, v api.View) ([][2]api.Rat, api.Errno) {
	bodies, errSolid := solid.Read(s)
	paper, errView := readView(v)
	if e := cmp.Or(errSolid, errView); e != api.OK {
		return nil, e
	}
	if len(bodies) == 0 {
		return nil, api.ErrEmpty
	}
	var places []place
	for p := range bodies.Corners() {
		places = append(places, paper.place(p))
	}
	return each(hull(places), place.write)
}

// Area returns the area of a polygon.
func Area(polygon [][2]api.Rat) (api.Rat, api.Errno) {
	if len(polygon) > api.MaxList {
		return "", api.ErrMany
	}
	places, e := each(polygon, readPlace)
	switch {
	case e != api.OK:
		return "", e
	case len(places) < 3:
		return "", api.ErrEmpty
	}
	return area(places).Write()
}

// Shadow returns the area of the places of a body.
func Shadow(b api.Body, v api.View) (api.Rat, api.Errno) {
	bodies, errBody := solid.Read(api.Solid{b})
	paper, errView := readView(v)
	if e := cmp.Or(errBody, errView); e != api.OK {
		return "", e
	}
	var sum space.Number
	for _, h := range bodies[0].Halves() {
		// The section in the plane of a facet is this facet.
		sum = sum.Plus(magnitude(bodies.Section(h).Dot(paper.toward)))
	}
	return sum.Over(space.Integer(2).Times(paper.toward.Square())).Write()
}

// magnitude returns the absolute value of a number.
func magnitude(x space.Number) space.Number {
	if x.Sign() < 0 {
		return x.Negated()
	}
	return x
}
