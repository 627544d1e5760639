package joint

import (
	"cmp"
	"iter"

	"trunnel/api"
	"trunnel/space"
)

// timbers are api's without errors.
type timbers struct {
	members []api.Member
	blanks  []api.Solid
	joints  []joint
	works   map[int]work // what is known of the joints so far
}

// joint is a joint with the numbers of its members, A and B.
type joint struct {
	kind
	sides   [2]int
	numbers []space.Number
}

// find returns the number of the first element of a list that has a wanted property, and whether there is one.
func find[T any, P comparable](list []T, property func(T) P, wanted P) (int, bool) {
	for i, x := range list {
		if property(x) == wanted {
			return i, true
		}
	}
	return 0, false
}

func nameOf(m api.Member) string { return m.Name }

// element returns the element of a list with a number, or ErrUnknown.
func element[T any](list []T, i int) (T, api.Errno) {
	if i < 0 || i >= len(list) {
		return *new(T), api.ErrUnknown
	}
	return list[i], api.OK
}

// readTimbers returns timbers, and the error of CheckTimbers.
func readTimbers(t api.Timbers) (timbers, api.Errno) {
	blanks, e := readMembers(t.Members)
	if e != api.OK {
		return timbers{}, e
	}
	joints, e := readJoints(t)
	if e != api.OK {
		return timbers{}, e
	}
	return timbers{t.Members, blanks, joints, map[int]work{}}, api.OK
}

// readMembers returns the blanks of members, and the first error of members.
func readMembers(members []api.Member) ([]api.Solid, api.Errno) {
	if len(members) > api.MaxMembers {
		return nil, api.ErrMany
	}
	blanks := make([]api.Solid, len(members))
	for i, m := range members {
		var e api.Errno
		if blanks[i], e = Blank(m); e != api.OK {
			return nil, e
		}
		if _, twice := find(members[:i], nameOf, m.Name); twice {
			return nil, api.ErrTwice
		}
	}
	return blanks, api.OK
}

// readJoints returns the joints of timbers, and the first error of joints.
func readJoints(t api.Timbers) ([]joint, api.Errno) {
	if len(t.Joints) > api.MaxJoints {
		return nil, api.ErrMany
	}
	joints := make([]joint, len(t.Joints))
	for i, j := range t.Joints {
		var e api.Errno
		if joints[i], e = readJoint(j, t.Members); e != api.OK {
			return nil, e
		}
	}
	return joints, api.OK
}

// readJoint returns a joint of members, and its error.
func readJoint(j api.Joint, members []api.Member) (joint, api.Errno) {
	kind, ok := kinds()[j.Kind]
	a, isA := find(members, nameOf, j.A)
	b, isB := find(members, nameOf, j.B)
	switch {
	case !ok:
		return joint{}, api.ErrKind
	case !isA || !isB:
		return joint{}, api.ErrUnknown
	case a == b:
		return joint{}, api.ErrTwice
	case len(j.Numbers) != kind.count:
		return joint{}, api.ErrShape
	}
	numbers := make([]space.Number, len(j.Numbers))
	for i, text := range j.Numbers {
		var e api.Errno
		if numbers[i], e = space.ReadNumber(text); e != api.OK {
			return joint{}, e
		}
	}
	return joint{kind, [2]int{a, b}, numbers}, kind.check(numbers)
}

// readMember returns timbers, of which one has the number k, and the first error of both.
func readMember(t api.Timbers, k int) (timbers, api.Errno) {
	r, e := readTimbers(t)
	_, unknown := element(t.Members, k)
	return r, cmp.Or(e, unknown)
}

// readOne returns timbers and their joint with a number, and the first error of both.
func readOne(t api.Timbers, i int) (timbers, joint, api.Errno) {
	r, e := readTimbers(t)
	j, unknown := element(r.joints, i)
	return r, j, cmp.Or(e, unknown)
}

// readPeg is readOne for a peg.
func readPeg(t api.Timbers, i int) (timbers, joint, api.Errno) {
	r, j, e := readOne(t, i)
	if e == api.OK && !j.isPeg {
		e = api.ErrKind
	}
	return r, j, e
}

// jointsOf goes through the joints of a member, with the side on which it is: 0 for A, 1 for B.
func (t timbers) jointsOf(k int) iter.Seq2[int, int] {
	return func(yield func(int, int) bool) {
		for i, j := range t.joints {
			for side, member := range j.sides {
				if member == k && !yield(i, side) {
					return
				}
			}
		}
	}
}

// pegNumbers returns the numbers of the pegs.
func (t timbers) pegNumbers() []int {
	var pegs []int
	for i, j := range t.joints {
		if j.isPeg {
			pegs = append(pegs, i)
		}
	}
	return pegs
}
