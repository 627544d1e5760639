package cut

import (
	"slices"

	"trunnel/api"
	"trunnel/space"
)

// need is the numbers of two cuts, of which the first one has to come before the second one.
type need = [2]int

// needs returns the needs of all cuts, in lexicographic order.
func (w work) needs() ([]need, api.Errno) {
	var needs []need
	for i := range w.steps {
		for j := range w.steps {
			if i == j {
				continue
			}
			isNeed, e := w.isNeed(i, j)
			if e != api.OK {
				return nil, e
			}
			if isNeed {
				needs = append(needs, need{i, j})
			}
		}
	}
	return needs, api.OK
}

// isNeed reports whether cut i has to come before cut j: whether j takes away a part of the place on which i is laid out.
func (w work) isNeed(i, j int) (bool, api.Errno) {
	both := w.regions[j].And(w.regions[i])
	if e := errorOf(both); e != api.OK {
		return false, e
	}
	open := w.open(i, both)
	if _, e := open.Write(); e != api.OK {
		return false, e
	}
	return !open.IsZero(), api.OK
}

// sequence returns the numbers of the cuts that can be carried out: always the least one that can come next.
func sequence(openings []space.Vector, needs []need) []int {
	var order []int
	isLeft := func(i int) bool { return !slices.Contains(order, i) }
next:
	for len(order) < len(openings) {
		for i, opening := range openings {
			waits := func(n need) bool { return n[1] == i && isLeft(n[0]) }
			if isLeft(i) && !opening.IsZero() && !slices.ContainsFunc(needs, waits) {
				order = append(order, i)
				continue next
			}
		}
		break
	}
	return order
}

// readSequence returns the number of the cuts of a list, and the sequence of those that can be carried out.
func readSequence(m api.Member, l []api.Cut) (count int, order []int, e api.Errno) {
	w, e := layOut(m, l)
	if e != api.OK {
		return 0, nil, e
	}
	openings, e := w.openings()
	if e != api.OK {
		return 0, nil, e
	}
	needs, e := w.needs()
	if e != api.OK {
		return 0, nil, e
	}
	return len(l), sequence(openings, needs), api.OK
}

// Needs returns the pairs of cuts of which the first one has to come before the second one.
func Needs(m api.Member, l []api.Cut) ([][2]int, api.Errno) {
	w, e := layOut(m, l)
	if e != api.OK {
		return nil, e
	}
	return w.needs()
}

// Order returns the first order in which a list can be carried out.
func Order(m api.Member, l []api.Cut) ([]int, api.Errno) {
	count, order, e := readSequence(m, l)
	if e != api.OK {
		return nil, e
	}
	if len(order) < count {
		return nil, api.ErrFace
	}
	return order, api.OK
}

// Circle returns the cuts that cannot be carried out in any order.
func Circle(m api.Member, l []api.Cut) ([]int, api.Errno) {
	count, order, e := readSequence(m, l)
	if e != api.OK {
		return nil, e
	}
	var circle []int
	for i := range count {
		if !slices.Contains(order, i) {
			circle = append(circle, i)
		}
	}
	return circle, api.OK
}
