package cut_test

import (
	"math/big"
	"slices"

	"trunnel/api"
	"trunnel/joint"
	"trunnel/solid"
	"trunnel/space"
)

// What the tests expect is made of the chapter's definitions with the functions of the chapters 1 to 3.

func volume(s api.Solid) api.Rat { return sure(solid.Volume(s)) }

// minus returns the opposite number.
func minus(x api.Rat) api.Rat { return sure(space.Sub("0", x)) }

func sum(numbers ...api.Rat) api.Rat {
	sum := api.Rat("0")
	for _, x := range numbers {
		sum = sure(space.Add(sum, x))
	}
	return sum
}

// linear is a x + b y + c z <= d.
type linear struct {
	n api.Vec
	d api.Rat
}

// opposite is a x + b y + c z >= d.
func opposite(a, b, c, d api.Rat) linear {
	return linear{api.Vec{minus(a), minus(b), minus(c)}, minus(d)}
}

// faceOf returns the row of a face in the chapter's table, and the axes of its own coordinates.
func faceOf(m api.Member, face string) (linear, [2]int) {
	switch face {
	case "top":
		return linear{api.Vec{"0", "0", "1"}, m.Size[2]}, [2]int{0, 1}
	case "bottom":
		return opposite("0", "0", "1", "0"), [2]int{0, 1}
	case "left":
		return opposite("0", "1", "0", "0"), [2]int{0, 2}
	case "right":
		return linear{api.Vec{"0", "1", "0"}, m.Size[1]}, [2]int{0, 2}
	case "start":
		return opposite("1", "0", "0", "0"), [2]int{1, 2}
	case "end":
		return linear{api.Vec{"1", "0", "0"}, m.Size[0]}, [2]int{1, 2}
	}
	panic("no face: " + face)
}

// rows returns the half-spaces of the chapter's table for a cut.
func rows(c api.Cut) []linear {
	n := c.Numbers
	var l []linear
	fromTo := func(a, b, c, from, to api.Rat) {
		l = append(l, opposite(a, b, c, from), linear{api.Vec{a, b, c}, to})
	}
	switch c.Kind {
	case "saw":
		l = append(l, opposite(n[0], n[1], n[2], n[3]))
	case "slot":
		fromTo("1", "0", "0", n[0], n[1])
		fromTo("0", "1", "0", n[2], n[3])
		fromTo("0", "0", "1", n[4], n[5])
	case "bore":
		x, z, r := n[0], n[1], n[2]
		wide := sure(space.Mul("3/2", r))
		fromTo("1", "0", "0", sum(x, minus(r)), sum(x, r))
		fromTo("0", "0", "1", sum(z, minus(r)), sum(z, r))
		fromTo("0", "1", "0", n[3], n[4])
		fromTo("1", "0", "1", sum(x, z, minus(wide)), sum(x, z, wide))
		fromTo("1", "0", "-1", sum(x, minus(z), minus(wide)), sum(x, minus(z), wide))
	case "pocket":
		for four := range slices.Chunk(n, 4) {
			l = append(l, linear{api.Vec(four[:3]), four[3]})
		}
	}
	return l
}

// placed returns a half-space of coordinates in space.
func placed(m api.Member, r linear) (api.Half, api.Errno) {
	h, e := space.MakeHalf(r.n, r.d)
	if e != api.OK {
		return api.Half{}, e
	}
	return space.PlaceHalf(m.Frame, h)
}

// planeOf returns the half-space of a face.
func planeOf(m api.Member, face string) api.Half {
	r, _ := faceOf(m, face)
	return sure(placed(m, r))
}

// regionOf returns the region of a cut, and the first error of its half-spaces.
func regionOf(m api.Member, c api.Cut) (api.Solid, api.Errno) {
	region := sure(joint.Blank(m))
	for _, r := range rows(c) {
		h, e := placed(m, r)
		if e != api.OK {
			return nil, e
		}
		if region, e = solid.Cut(region, h); e != api.OK {
			return nil, e
		}
	}
	return region, api.OK
}

// regionsOf returns the regions of a list without errors.
func regionsOf(m api.Member, l []api.Cut) []api.Solid {
	regions := make([]api.Solid, len(l))
	for i, c := range l {
		regions[i] = sure(regionOf(m, c))
	}
	return regions
}

// facetsIn returns the sum of the area vectors of the facets that bodies have in a half-space.
func facetsIn(s api.Solid, h api.Half) api.Vec {
	sum := origin()
	for _, b := range s {
		for i, area := range sure(solid.Areas(b)) {
			if b[i] == h {
				sum = sure(space.AddVec(sum, area))
			}
		}
	}
	return sum
}

func openingOf(m api.Member, c api.Cut) api.Vec {
	return facetsIn(sure(regionOf(m, c)), planeOf(m, c.Face))
}

// cutsOf returns what is left of a member behind all cuts.
func cutsOf(m api.Member, l []api.Cut) (api.Solid, api.Errno) {
	rest := sure(joint.Blank(m))
	for _, region := range regionsOf(m, l) {
		var e api.Errno
		if rest, e = solid.Minus(rest, region); e != api.OK {
			return nil, e
		}
	}
	return rest, api.OK
}

// carryOf carries out a list, cut by cut.
func carryOf(m api.Member, l []api.Cut) (api.Solid, int, api.Errno) {
	rest := sure(joint.Blank(m))
	for i, region := range regionsOf(m, l) {
		opening := openingOf(m, l[i])
		both, e := solid.And(rest, region)
		if e != api.OK {
			return nil, 0, e
		}
		if opening == origin() || facetsIn(both, planeOf(m, l[i].Face)) != opening {
			return nil, i, api.ErrFace
		}
		if rest, e = solid.Minus(rest, region); e != api.OK {
			return nil, 0, e
		}
	}
	return rest, len(l), api.OK
}

// needsOf returns the pairs of cuts of which the first one has to come before the second one.
func needsOf(m api.Member, l []api.Cut) [][2]int {
	regions := regionsOf(m, l)
	var needs [][2]int
	for i := range l {
		for j := range l {
			if i != j && facetsIn(sure(solid.And(regions[j], regions[i])), planeOf(m, l[i].Face)) != origin() {
				needs = append(needs, [2]int{i, j})
			}
		}
	}
	return needs
}

// circleOf removes cuts that can be carried out, as long as there are any, and returns the others.
func circleOf(m api.Member, l []api.Cut) []int {
	rest := make([]int, len(l))
	for i := range rest {
		rest[i] = i
	}
	needs := needsOf(m, l)
	for {
		before := len(rest)
		rest = slices.DeleteFunc(slices.Clone(rest), func(i int) bool {
			waits := func(n [2]int) bool { return n[1] == i && slices.Contains(rest, n[0]) }
			return openingOf(m, l[i]) != origin() && !slices.ContainsFunc(needs, waits)
		})
		if len(rest) == before {
			return rest
		}
	}
}

// permutations returns all orders of the numbers below n, in lexicographic order.
func permutations(n int) [][]int {
	all := [][]int{nil}
	for range n {
		var longer [][]int
		for _, p := range all {
			for i := range n {
				if !slices.Contains(p, i) {
					longer = append(longer, append(slices.Clone(p), i))
				}
			}
		}
		all = longer
	}
	return all
}

// ordered returns the cuts of a list in an order.
func ordered(l []api.Cut, order []int) []api.Cut {
	var cuts []api.Cut
	for _, i := range order {
		cuts = append(cuts, l[i])
	}
	return cuts
}

// planOf returns the list for a member of timbers, all of whose bodies are open.
func planOf(t api.Timbers, k int) []api.Cut {
	m := t.Members[k]
	rest := sure(joint.Blank(m))
	var cuts []api.Cut
	for i, j := range t.Joints {
		taken, ofB, e := joint.Taken(t, i)
		sure(0, e)
		switch m.Name {
		case j.A:
		case j.B:
			taken = ofB
		default:
			continue
		}
		for _, b := range sure(solid.And(rest, taken)) {
			cuts = append(cuts, cutOf(m, b))
		}
		rest = sure(solid.Minus(rest, taken))
	}
	return cuts
}

// cutOf returns the cut that takes an open body.
func cutOf(m api.Member, b api.Body) api.Cut {
	c := made("pocket", "")
	for _, h := range b {
		isFace := func(face string) bool { return planeOf(m, face) == h }
		if slices.ContainsFunc(names(), isFace) {
			continue
		}
		n := api.Vec{integer(h.N[0]), integer(h.N[1]), integer(h.N[2])}
		for _, axis := range []api.Vec{m.Frame.X, m.Frame.Y, m.Frame.Z} {
			c.Numbers = append(c.Numbers, sure(space.Dot(n, axis)))
		}
		c.Numbers = append(c.Numbers, sure(space.Sub(h.D, sure(space.Dot(n, m.Frame.Origin)))))
	}
	if len(c.Numbers) == 4 {
		c.Kind = "saw"
		for i, x := range c.Numbers {
			c.Numbers[i] = minus(x)
		}
	}
	for _, face := range names() {
		c.Face = face
		if openingOf(m, c) != origin() {
			return c
		}
	}
	panic("no opening")
}

// bigOf returns the number of a text.
func bigOf(a api.Rat) *big.Rat {
	x, ok := new(big.Rat).SetString(string(a))
	if !ok {
		panic("no number: " + string(a))
	}
	return x
}

// coordinates returns those of a point in a frame, by their definition.
func coordinates(f api.Frame, p api.Vec) [3]*big.Rat {
	var c [3]*big.Rat
	for i, axis := range []api.Vec{f.X, f.Y, f.Z} {
		product, square := new(big.Rat), new(big.Rat)
		for j := range p {
			x := bigOf(axis[j])
			product.Add(product, new(big.Rat).Mul(x, new(big.Rat).Sub(bigOf(p[j]), bigOf(f.Origin[j]))))
			square.Add(square, new(big.Rat).Mul(x, x))
		}
		c[i] = product.Quo(product, square)
	}
	return c
}

// excesses returns numbers that say where a point with these coordinates is seen from what a cut takes: all of them
// are at most 0 for a point of it.
func excesses(c api.Cut, p [3]*big.Rat) []*big.Rat {
	n := make([]*big.Rat, len(c.Numbers))
	for i, x := range c.Numbers {
		n[i] = bigOf(x)
	}
	less := func(a, b *big.Rat) *big.Rat { return new(big.Rat).Sub(a, b) }
	beyond := func(four []*big.Rat) *big.Rat {
		x := new(big.Rat).Neg(four[3])
		for i := range p {
			x.Add(x, new(big.Rat).Mul(four[i], p[i]))
		}
		return x
	}
	var all []*big.Rat
	switch c.Kind {
	case "saw":
		all = append(all, new(big.Rat).Neg(beyond(n)))
	case "slot":
		for i := range p {
			all = append(all, less(n[2*i], p[i]), less(p[i], n[2*i+1]))
		}
	case "bore":
		dx, dz := less(p[0], n[0]), less(p[2], n[1])
		dx.Abs(dx)
		dz.Abs(dz)
		wide := new(big.Rat).Mul(n[2], big.NewRat(3, 2))
		all = append(all, less(dx, n[2]), less(dz, n[2]), less(new(big.Rat).Add(dx, dz), wide), less(n[3], p[1]), less(p[1], n[4]))
	case "pocket":
		for four := range slices.Chunk(n, 4) {
			all = append(all, beyond(four))
		}
	}
	return all
}

// sideOf returns where a point is seen from the region of a cut: -1 inside, 0 on its surface, 1 outside.
func sideOf(m api.Member, c api.Cut, p api.Vec) int {
	q := coordinates(m.Frame, p)
	all := excesses(c, q)
	for i, x := range q {
		all = append(all, new(big.Rat).Neg(x), new(big.Rat).Sub(x, bigOf(m.Size[i])))
	}
	side := -1
	for _, x := range all {
		side = max(side, x.Sign())
	}
	return side
}
