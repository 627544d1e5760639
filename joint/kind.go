package joint

import (
	"trunnel/api"
	"trunnel/solid"
	"trunnel/space"
)

// kind is what the joints of a kind have in common.
type kind struct {
	count     int                                  // how many Numbers they have
	ascending []int                                // the places of the Numbers that have to be below the next ones
	isInRange func(n ...space.Number) bool         // whether side, s or r is what it may be (if there is one)
	halves    func(n ...space.Number) []space.Half // the half-spaces of the core, in the coordinates of A
	core      func(blank api.Solid, halves []api.Half) (api.Solid, api.Errno)
	isPeg     bool
}

// kinds returns the kinds of joints by their names.
func kinds() map[string]kind {
	return map[string]kind{
		"housing":    {halves: slabs, core: part},
		"tenon":      {count: 6, ascending: []int{0, 2, 4}, halves: slabs, core: part},
		"lap":        {count: 2, isInRange: startsWithSide, halves: lap, core: part},
		"scarf":      {count: 2, halves: scarf, core: part},
		"dovetail":   {count: 7, ascending: []int{0, 2, 4}, isInRange: widens, halves: dovetail, core: part},
		"birdsmouth": {halves: slabs, core: nothing},
		"peg":        {count: 5, ascending: []int{3}, isInRange: hasRadius, halves: octagon, core: whole, isPeg: true},
	}
}

// check returns the error of numbers, of which there are as many as the kind has.
func (k kind) check(numbers []space.Number) api.Errno {
	for _, i := range k.ascending {
		if numbers[i].Compare(numbers[i+1]) >= 0 {
			return api.ErrOrder
		}
	}
	if k.isInRange != nil && !k.isInRange(numbers...) {
		return api.ErrRange
	}
	return api.OK
}

// startsWithSide reports whether the first number is 1 or -1.
func startsWithSide(n ...space.Number) bool {
	return n[0].Compare(space.Integer(1)) == 0 || n[0].Compare(space.Integer(-1)) == 0
}

// widens reports whether the s of a dovetail is at least 0.
func widens(n ...space.Number) bool { return n[6].Sign() >= 0 }

// hasRadius reports whether the r of a peg is above 0.
func hasRadius(n ...space.Number) bool { return n[2].Sign() > 0 }

// upTo returns the half-space of the points with a coordinate of at most so much.
func upTo(axis int, most space.Number) space.Half {
	var n [3]int
	n[axis] = 1
	return space.Half{N: space.Integers(n), D: most}
}

// slab returns the half-spaces of the points with a coordinate from one number to another one.
func slab(axis int, from, to space.Number) []space.Half {
	return []space.Half{upTo(axis, from).Opposite(), upTo(axis, to)}
}

// slabs returns the half-spaces of the points with coordinates from each number to the next one: from the first
// to the second one for x, and so on, for as many coordinates as there are numbers for.
func slabs(n ...space.Number) []space.Half {
	var halves []space.Half
	for axis := range len(n) / 2 {
		halves = append(halves, slab(axis, n[2*axis], n[2*axis+1])...)
	}
	return halves
}

// lap returns the half-space on one side of a height.
func lap(n ...space.Number) []space.Half {
	below := upTo(2, n[1])
	if n[0].Sign() < 0 {
		return []space.Half{below.Opposite()}
	}
	return []space.Half{below}
}

// scarf returns the half-space on one side of a slanting plane.
func scarf(n ...space.Number) []space.Half {
	return []space.Half{{N: space.Vector{space.Integer(1), {}, n[0]}, D: n[1]}}
}

// dovetail returns the half-spaces of a tenon whose sides across y lean outwards, from x0 on.
func dovetail(n ...space.Number) []space.Half {
	halves, s := slabs(n[:6]...), n[6]
	for _, side := range [2]int{2, 3} {
		halves[side].N[0] = s.Negated()
		halves[side].D = halves[side].D.Minus(s.Times(n[0]))
	}
	return halves
}

// octagon returns the half-spaces of a peg.
func octagon(n ...space.Number) []space.Half {
	middle, r := space.Vector{n[0], {}, n[1]}, n[2]
	diagonal := r.Times(space.Integer(3)).Over(space.Integer(2))
	var halves []space.Half
	for _, side := range [8][2]int{{-1, -1}, {-1, 0}, {-1, 1}, {0, -1}, {0, 1}, {1, -1}, {1, 0}, {1, 1}} {
		reach := r
		if side[0]*side[1] != 0 {
			reach = diagonal
		}
		normal := space.Integers([3]int{side[0], 0, side[1]})
		halves = append(halves, space.Half{N: normal, D: normal.Dot(middle).Plus(reach)})
	}
	return append(halves, slab(1, n[3], n[4])...)
}

// place returns half-spaces that are given by coordinates in a frame.
func place(f api.Frame, halves []space.Half) ([]api.Half, api.Errno) {
	placed := make([]api.Half, len(halves))
	for i, h := range halves {
		made, e := h.Write()
		if e != api.OK {
			return nil, e
		}
		if placed[i], e = space.PlaceHalf(f, made); e != api.OK {
			return nil, e
		}
	}
	return placed, api.OK
}

// part returns the part of a blank in half-spaces.
func part(blank api.Solid, halves []api.Half) (api.Solid, api.Errno) {
	for _, h := range halves {
		var e api.Errno
		if blank, e = solid.Cut(blank, h); e != api.OK {
			return nil, e
		}
	}
	return blank, api.OK
}

// nothing returns the core of a joint in which B keeps all.
func nothing(api.Solid, []api.Half) (api.Solid, api.Errno) { return nil, api.OK }

// whole returns the body of half-spaces, which does not depend on the blank.
func whole(_ api.Solid, halves []api.Half) (api.Solid, api.Errno) {
	b, e := solid.Normal(halves)
	if e != api.OK {
		return nil, e
	}
	return api.Solid{b}, api.OK
}
