package joint

import (
	"cmp"

	"trunnel/api"
	"trunnel/solid"
)

// work is what a joint does: its core, what it takes from A and from B, and the solids with whose corners
// the section of A or of B may change.
type work struct {
	core    api.Solid
	taken   [2]api.Solid
	changes [2][]api.Solid
}

// work returns the work of a joint.
func (t timbers) work(i int) (work, api.Errno) {
	w, ok := t.works[i]
	if ok {
		return w, api.OK
	}
	j := t.joints[i]
	a, b := t.blanks[j.sides[0]], t.blanks[j.sides[1]]
	core, e := t.core(j)
	if e != api.OK {
		return work{}, e
	}
	if j.isPeg {
		w, e = drill(a, b, core)
	} else {
		w, e = split(a, b, core)
	}
	if e != api.OK {
		return work{}, e
	}
	t.works[i] = w
	return w, api.OK
}

// core returns the core of a joint.
func (t timbers) core(j joint) (api.Solid, api.Errno) {
	a := j.sides[0]
	halves, e := place(t.members[a].Frame, j.halves(j.numbers...))
	if e != api.OK {
		return nil, e
	}
	return j.kind.core(t.blanks[a], halves)
}

// split returns the work of a joint that shares out what two blanks have in common.
func split(a, b, core api.Solid) (work, api.Errno) {
	overlap, errOverlap := solid.And(a, b)
	fromA, errA := solid.Minus(overlap, core)
	fromB, errB := solid.And(overlap, core)
	changes := []api.Solid{overlap, fromB}
	return work{core, [2]api.Solid{fromA, fromB}, [2][]api.Solid{changes, changes}}, cmp.Or(errOverlap, errA, errB)
}

// drill returns the work of a peg.
func drill(a, b, peg api.Solid) (work, api.Errno) {
	fromA, errA := solid.And(a, peg)
	fromB, errB := solid.And(b, peg)
	return work{peg, [2]api.Solid{fromA, fromB}, [2][]api.Solid{{fromA}, {fromB}}}, cmp.Or(errA, errB)
}

// finish returns finished members, and the error of the first one with one.
func (t timbers) finish(members ...int) ([]api.Solid, api.Errno) {
	finished := make([]api.Solid, len(members))
	for i, k := range members {
		finished[i] = t.blanks[k]
		// What is cut has its own place, without room to grow over its neighbours.
		if e := t.carve(k, finished[i:i+1:i+1]); e != api.OK {
			return nil, e
		}
	}
	return finished, api.OK
}

// all returns all finished members and all pegs, and the first error of members, then of pegs.
func (t timbers) all() (members, pegs []api.Solid, e api.Errno) {
	numbers := make([]int, len(t.members))
	for k := range numbers {
		numbers[k] = k
	}
	if members, e = t.finish(numbers...); e != api.OK {
		return nil, nil, e
	}
	for _, i := range t.pegNumbers() {
		w, e := t.work(i)
		if e != api.OK {
			return nil, nil, e
		}
		pegs = append(pegs, w.core)
	}
	return members, pegs, api.OK
}

// carve takes from one solid what the joints of a member take from it.
func (t timbers) carve(k int, left []api.Solid) api.Errno {
	for i, side := range t.jointsOf(k) {
		w, e := t.work(i)
		if e != api.OK {
			return e
		}
		if left[0], e = solid.Minus(left[0], w.taken[side]); e != api.OK {
			return e
		}
	}
	return api.OK
}

// Core returns the core of a joint.
func Core(t api.Timbers, i int) (api.Solid, api.Errno) {
	r, j, e := readOne(t, i)
	if e != api.OK {
		return nil, e
	}
	return r.core(j)
}

// Peg returns the peg of a joint.
func Peg(t api.Timbers, i int) (api.Solid, api.Errno) {
	r, j, e := readPeg(t, i)
	if e != api.OK {
		return nil, e
	}
	return r.core(j)
}

// Taken returns what a joint takes from both members.
func Taken(t api.Timbers, i int) (api.Solid, api.Solid, api.Errno) {
	r, _, e := readOne(t, i)
	if e != api.OK {
		return nil, nil, e
	}
	w, e := r.work(i)
	return w.taken[0], w.taken[1], e
}

// Finished returns the finished solid of a member.
func Finished(t api.Timbers, k int) (api.Solid, api.Errno) {
	r, e := readMember(t, k)
	if e != api.OK {
		return nil, e
	}
	finished, e := r.finish(k)
	if e != api.OK {
		return nil, e
	}
	return finished[0], api.OK
}
