package cut

import (
	"slices"

	"trunnel/api"
	"trunnel/space"
)

// shape is what the numbers of a cut describe: a saw, a slot, a bore or a pocket.
type shape interface {
	// check returns the error of numbers that do not go together.
	check() api.Errno
	// halves returns the half-spaces of what is taken, in the coordinates of the member.
	halves() []space.Half
}

// saw is the half-space that the saw leaves.
type saw space.Half

// slot is a box: for each axis, where it begins and where it ends.
type slot [3][2]space.Number

// bore is the hole of a peg.
type bore struct {
	x, z, r, y0, y1 space.Number
}

// pocket is an intersection of half-spaces.
type pocket []space.Half

// fits reports whether a cut of a kind has so many numbers, and whether there is such a kind.
func fits(kind string, count int) (ok, isKind bool) {
	switch kind {
	case "saw":
		return count == 4, true
	case "slot":
		return count == 6, true
	case "bore":
		return count == 5, true
	case "pocket":
		return count%4 == 0, true
	}
	return false, false
}

// shapeOf returns the shape of a cut of a kind, with as many numbers as it has to have.
func shapeOf(kind string, n []space.Number) shape {
	switch kind {
	case "saw":
		return saw(upTo(n))
	case "slot":
		return slot{{n[0], n[1]}, {n[2], n[3]}, {n[4], n[5]}}
	case "bore":
		return bore{n[0], n[1], n[2], n[3], n[4]}
	}
	var p pocket
	for four := range slices.Chunk(n, 4) {
		p = append(p, upTo(four))
	}
	return p
}

// upTo returns the half-space a x + b y + c z <= d of four numbers.
func upTo(four []space.Number) space.Half {
	return space.Half{N: space.Vector(four[:3]), D: four[3]}
}

// fours returns the numbers a, b, c, d of half-spaces.
func fours(halves ...space.Half) []space.Number {
	var numbers []space.Number
	for _, h := range halves {
		numbers = append(numbers, h.N[0], h.N[1], h.N[2], h.D)
	}
	return numbers
}

// between returns the half-spaces of the points whose product with a vector is from one number to another one.
func between(x, y, z int, from, to space.Number) []space.Half {
	n := space.Integers([3]int{x, y, z})
	return []space.Half{{N: n.Negated(), D: from.Negated()}, {N: n, D: to}}
}

// around returns the half-spaces of the points whose product with a vector is at most so far away from a number.
func around(x, y, z int, middle, reach space.Number) []space.Half {
	return between(x, y, z, middle.Minus(reach), middle.Plus(reach))
}

func (s saw) halves() []space.Half { return []space.Half{space.Half(s).Opposite()} }

func (s slot) halves() []space.Half {
	return slices.Concat(between(1, 0, 0, s[0][0], s[0][1]), between(0, 1, 0, s[1][0], s[1][1]), between(0, 0, 1, s[2][0], s[2][1]))
}

func (b bore) halves() []space.Half {
	diagonal := b.r.Times(space.Integer(3)).Over(space.Integer(2))
	return slices.Concat(
		around(1, 0, 0, b.x, b.r), around(0, 0, 1, b.z, b.r), between(0, 1, 0, b.y0, b.y1),
		around(1, 0, 1, b.x.Plus(b.z), diagonal), around(1, 0, -1, b.x.Minus(b.z), diagonal))
}

func (p pocket) halves() []space.Half { return p }

func (s saw) check() api.Errno { return pocket{space.Half(s)}.check() }

func (s slot) check() api.Errno {
	for _, ends := range s {
		if ends[0].Compare(ends[1]) >= 0 {
			return api.ErrOrder
		}
	}
	return api.OK
}

func (b bore) check() api.Errno {
	switch {
	case b.y0.Compare(b.y1) >= 0:
		return api.ErrOrder
	case b.r.Sign() <= 0:
		return api.ErrRange
	}
	return api.OK
}

func (p pocket) check() api.Errno {
	for _, h := range p {
		if h.N.IsZero() {
			return api.ErrZero
		}
	}
	return api.OK
}
