package raise_test

import (
	"math/big"
	"slices"

	"trunnel/api"
	"trunnel/joint"
	"trunnel/raise"
	"trunnel/solid"
	"trunnel/space"
)

// The tests compute what they expect from the definitions of the chapter, with math/big, with the functions of the
// packages below, and with those of this package that are tested on their own.

func bigOf(a api.Rat) *big.Rat {
	x, ok := new(big.Rat).SetString(string(a))
	if !ok {
		panic("no number: " + string(a))
	}
	return x
}

func text(x *big.Rat) api.Rat { return api.Rat(x.RatString()) }

func less(a, b *big.Rat) *big.Rat { return new(big.Rat).Sub(a, b) }

func plus(a, b *big.Rat) *big.Rat { return new(big.Rat).Add(a, b) }

func times(a, b *big.Rat) *big.Rat { return new(big.Rat).Mul(a, b) }

func dot(n [3]int, v api.Vec) *big.Rat {
	sum := new(big.Rat)
	for i, x := range v {
		sum = plus(sum, times(big.NewRat(int64(n[i]), 1), bigOf(x)))
	}
	return sum
}

// differences returns the body of what is left of the points of a less those of b, if it is small enough.
func differences(a, b api.Body) (api.Body, bool) {
	var l []api.Vec
	for _, p := range sure(solid.Corners(a)) {
		for _, q := range sure(solid.Corners(b)) {
			if d := sure(space.SubVec(p, q)); !slices.Contains(l, d) {
				l = append(l, d)
			}
		}
	}
	body, e := solid.Hull(l)
	return body, e == api.OK
}

// meetsRay reports whether s d is inside of a body, for a number s from 0 on.
func meetsRay(body api.Body, d api.Vec) bool {
	least, most := new(big.Rat), (*big.Rat)(nil)
	for _, h := range body {
		climb, depth := dot(h.N, d), bigOf(h.D)
		if climb.Sign() == 0 && depth.Sign() <= 0 {
			return false
		}
		if climb.Sign() == 0 {
			continue
		}
		s := new(big.Rat).Quo(depth, climb)
		if climb.Sign() < 0 && s.Cmp(least) > 0 {
			least = s
		}
		if climb.Sign() > 0 && (most == nil || s.Cmp(most) < 0) {
			most = s
		}
	}
	return least.Cmp(most) < 0
}

// isBlocked is Blocks, if all bodies have few enough corners: a body of a, moved by -s d, meets one of b if s d is a point
// of a less one of b.
func isBlocked(a, b api.Solid, d api.Vec) (is, ok bool) {
	for _, p := range a {
		for _, q := range b {
			body, ok := differences(p, q)
			if !ok {
				return false, false
			}
			is = is || meetsRay(body, d)
		}
	}
	return is, true
}

// finishedOf returns the finished members of timbers.
func finishedOf(t api.Timbers) []api.Solid {
	l := make([]api.Solid, len(t.Members))
	for k := range l {
		l[k] = sure(joint.Finished(t, k))
	}
	return l
}

// graphOf is Graph.
func graphOf(t api.Timbers, directions []api.Vec) [][][]int {
	l := finishedOf(t)
	graph := make([][][]int, len(l))
	for k, a := range l {
		graph[k] = make([][]int, len(directions))
		for i, d := range directions {
			for other, b := range l {
				if other != k && sure(raise.Blocks(a, b, d)) {
					graph[k][i] = append(graph[k][i], other)
				}
			}
		}
	}
	return graph
}

// freeOf returns the directions in which a member is free beside others.
func freeOf(graph [][][]int, k int, present []int) []int {
	var l []int
	for d, blockers := range graph[k] {
		if !slices.ContainsFunc(blockers, func(other int) bool { return slices.Contains(present, other) }) {
			l = append(l, d)
		}
	}
	return l
}

// groupsOf is Parts: it joins groups as long as there is a joint between two of them.
func groupsOf(t api.Timbers, present []int) [][]int {
	var groups [][]int
	for _, k := range slices.Sorted(slices.Values(present)) {
		groups = append(groups, []int{k})
	}
	group := func(name string) int {
		return slices.IndexFunc(groups, func(g []int) bool {
			return slices.ContainsFunc(g, func(k int) bool { return t.Members[k].Name == name })
		})
	}
	for _, j := range t.Joints {
		a, b := group(j.A), group(j.B)
		if a < 0 || b < 0 || a == b {
			continue
		}
		a, b = min(a, b), max(a, b)
		groups[a] = slices.Sorted(slices.Values(slices.Concat(groups[a], groups[b])))
		groups = slices.Delete(groups, b, b+1)
	}
	slices.SortFunc(groups, slices.Compare)
	return groups
}

// place is a point in the plane.
type place [2]*big.Rat

func placeOf(p [2]api.Rat) place { return place{bigOf(p[0]), bigOf(p[1])} }

func (p place) text() [2]api.Rat { return [2]api.Rat{text(p[0]), text(p[1])} }

// crossing and product return the vector product and the scalar product of the ways from p to q and to r.
func crossing(p, q, r place) int {
	return times(less(q[0], p[0]), less(r[1], p[1])).Cmp(times(less(q[1], p[1]), less(r[0], p[0])))
}

func product(p, q, r place) int {
	return plus(times(less(q[0], p[0]), less(r[0], p[0])), times(less(q[1], p[1]), less(r[1], p[1]))).Sign()
}

// isOutside reports whether a point is outside of the convex hull of others: whether all of them are seen from it to the
// left of one of them, and none in the opposite direction.
func isOutside(l []place, p place) bool {
	isHere := func(q place) bool { return q[0].Cmp(p[0]) == 0 && q[1].Cmp(p[1]) == 0 }
	if slices.ContainsFunc(l, isHere) {
		return false
	}
	for _, q := range l {
		isWrong := func(r place) bool {
			side := crossing(p, q, r)
			return side < 0 || side == 0 && product(p, q, r) < 0
		}
		if !slices.ContainsFunc(l, isWrong) {
			return true
		}
	}
	return len(l) == 0
}

func compareTexts(p, q [2]api.Rat) int {
	for i := range p {
		if c := bigOf(p[i]).Cmp(bigOf(q[i])); c != 0 {
			return c
		}
	}
	return 0
}

// cornersOf is Hull: the points that are outside of the hull of the other ones, round the least one.
func cornersOf(l []place) [][2]api.Rat {
	var corners [][2]api.Rat
	for _, p := range l {
		others := slices.DeleteFunc(slices.Clone(l), func(q place) bool { return q.text() == p.text() })
		if isOutside(others, p) && !slices.Contains(corners, p.text()) {
			corners = append(corners, p.text())
		}
	}
	slices.SortFunc(corners, compareTexts)
	if len(corners) > 0 {
		first := placeOf(corners[0])
		slices.SortStableFunc(corners[1:], func(q, r [2]api.Rat) int { return -crossing(first, placeOf(q), placeOf(r)) })
	}
	return corners
}

// groundOf returns the places at which a body is on the ground: of its corners, and of the ways between them.
func groundOf(b api.Body) []place {
	var l []place
	corners := sure(solid.Corners(b))
	for _, p := range corners {
		for _, q := range corners {
			high, low := bigOf(p[2]), bigOf(q[2])
			if high.Sign() < 0 || low.Sign() > 0 || high.Cmp(low) == 0 && high.Sign() != 0 {
				continue
			}
			share := new(big.Rat)
			if high.Cmp(low) != 0 {
				share.Quo(high, less(high, low))
			}
			at := func(i int) *big.Rat { return plus(bigOf(p[i]), times(share, less(bigOf(q[i]), bigOf(p[i])))) }
			if here := (place{at(0), at(1)}); !slices.ContainsFunc(l, func(o place) bool { return o.text() == here.text() }) {
				l = append(l, here)
			}
		}
	}
	return l
}

// feetOf returns places whose hull are the feet of some members.
func feetOf(l []api.Solid, present []int) []place {
	var all []place
	for _, k := range present {
		for _, b := range l[k] {
			all = append(all, groundOf(b)...)
		}
	}
	return all
}

// centreOf is Centre; it has no result if there are no bodies.
func centreOf(l []api.Solid, present []int) ([3]*big.Rat, bool) {
	weight, sum := new(big.Rat), [3]*big.Rat{{}, {}, {}}
	for _, k := range present {
		if len(l[k]) == 0 {
			continue
		}
		volume, centre := bigOf(sure(solid.Volume(l[k]))), sure(solid.Centre(l[k]))
		weight = plus(weight, volume)
		for i := range sum {
			sum[i] = plus(sum[i], times(volume, bigOf(centre[i])))
		}
	}
	if weight.Sign() == 0 {
		return sum, false
	}
	for i := range sum {
		sum[i].Quo(sum[i], weight)
	}
	return sum, true
}

// fallingOf returns the parts of a stage that do not stand.
func fallingOf(t api.Timbers, l []api.Solid, present, props []int) [][]int {
	var falling [][]int
	for _, part := range groupsOf(t, present) {
		isProp := func(k int) bool { return slices.Contains(props, k) }
		centre, hasBodies := centreOf(l, part)
		if !slices.ContainsFunc(part, isProp) && hasBodies && isOutside(feetOf(l, part), place{centre[0], centre[1]}) {
			falling = append(falling, part)
		}
	}
	return falling
}

// search is what the orders of timbers are found with.
type search struct {
	t       api.Timbers
	graph   [][][]int
	falling [][][]int // for each set of members, whose numbers are bits, the parts that do not stand without props
}

func newSearch(t api.Timbers, directions []api.Vec) search {
	s, l := search{t: t, graph: graphOf(t, directions)}, finishedOf(t)
	for bits := range 1 << len(l) {
		present := slices.DeleteFunc(upTo(len(l)), func(k int) bool { return bits>>k&1 == 0 })
		s.falling = append(s.falling, fallingOf(t, l, present, nil))
	}
	return s
}

// falls reports whether a stage does not stand with props.
func (s search) falls(present, props []int) bool {
	bits := 0
	for _, k := range present {
		bits += 1 << k
	}
	return slices.ContainsFunc(s.falling[bits], func(part []int) bool {
		return !slices.ContainsFunc(part, func(k int) bool { return slices.Contains(props, k) })
	})
}

// first returns the first order that begins with moves: all orders are tried, one after another. With isLoose stages
// need not stand.
func (s search) first(begun []api.Move, there, props []int, isLoose bool) ([]api.Move, bool) {
	if len(begun) == len(s.t.Members) {
		return begun, true
	}
	for k, m := range s.t.Members {
		if slices.Contains(there, k) {
			continue
		}
		for _, d := range freeOf(s.graph, k, there) {
			next := append(slices.Clone(there), k)
			if !isLoose && s.falls(next, props) {
				continue
			}
			order, ok := s.first(append(slices.Clone(begun), api.Move{Member: m.Name, Direction: d}), next, props, isLoose)
			if ok {
				return order, true
			}
		}
	}
	return nil, false
}

// order is Order.
func (s search) order(props []int) ([]api.Move, api.Errno) {
	if order, ok := s.first(nil, nil, props, false); ok {
		return order, api.OK
	}
	if _, ok := s.first(nil, nil, nil, true); ok {
		return nil, api.ErrFalls
	}
	return nil, api.ErrBlocked
}

// setsOf returns all sets of the numbers below n, the smaller ones first, and those of a size in lexicographic order.
func setsOf(n int) [][]int {
	sets := [][]int{{}}
	for k := range n {
		for _, s := range slices.Clone(sets) {
			sets = append(sets, append(slices.Clone(s), k))
		}
	}
	slices.SortFunc(sets, func(a, b []int) int {
		if len(a) != len(b) {
			return len(a) - len(b)
		}
		return slices.Compare(a, b)
	})
	return sets
}

// props is Props.
func (s search) props() ([]int, []api.Move, api.Errno) {
	for _, props := range setsOf(len(s.t.Members)) {
		if order, e := s.order(props); e != api.ErrFalls {
			return props[:len(props):len(props)], order, e
		}
	}
	panic("even with all props it falls")
}

// check is CheckOrder.
func (s search) check(l []api.Move, props []int) api.Errno {
	var there []int
	for _, m := range l {
		k := slices.IndexFunc(s.t.Members, func(o api.Member) bool { return o.Name == m.Member })
		if !slices.Contains(freeOf(s.graph, k, there), m.Direction) {
			return api.ErrBlocked
		}
		if there = append(there, k); s.falls(there, props) {
			return api.ErrFalls
		}
	}
	if len(there) < len(s.t.Members) {
		return api.ErrNone
	}
	return api.OK
}

// isCircle reports whether each member of a set is blocked by others of it in every direction.
func (s search) isCircle(set []int) bool {
	return !slices.ContainsFunc(set, func(k int) bool { return len(freeOf(s.graph, k, set)) > 0 })
}

// circle is Circle: the greatest set is the last one.
func (s search) circle() ([]int, api.Errno) {
	for _, set := range slices.Backward(setsOf(len(s.t.Members))) {
		if len(set) > 0 && s.isCircle(set) {
			return set, api.OK
		}
	}
	return nil, api.ErrNone
}

// paths is Paths.
func (s search) paths() ([]api.Move, api.Errno) {
	left := upTo(len(s.t.Members))
	var order []api.Move
	for len(left) > 0 {
		i := len(left) - 1
		for i >= 0 && len(freeOf(s.graph, left[i], left)) == 0 {
			i--
		}
		if i < 0 {
			return nil, api.ErrBlocked
		}
		k := left[i]
		order = append([]api.Move{{Member: s.t.Members[k].Name, Direction: freeOf(s.graph, k, left)[0]}}, order...)
		left = slices.Delete(left, i, i+1)
	}
	return order, api.OK
}
