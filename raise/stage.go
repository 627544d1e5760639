package raise

import (
	"iter"
	"slices"

	"trunnel/api"
	"trunnel/solid"
	"trunnel/space"
)

// stage is a set of members, by their numbers.
type stage [api.MaxMembers]bool

// members goes through the members of a stage in ascending order.
func (s stage) members() iter.Seq[int] {
	return func(yield func(int) bool) {
		for k, isThere := range s {
			if isThere && !yield(k) {
				return
			}
		}
	}
}

// list returns the members of a stage in ascending order.
func (s stage) list() []int { return slices.Collect(s.members()) }

// greatest returns the greatest member of a stage, or -1.
func (s stage) greatest() int {
	greatest := -1
	for k := range s.members() {
		greatest = k
	}
	return greatest
}

// with returns a stage with a further member.
func (s stage) with(k int) stage {
	s[k] = true
	return s
}

// without returns a stage without one of its members.
func (s stage) without(k int) stage {
	s[k] = false
	return s
}

// meets reports whether two stages have a member in common.
func (s stage) meets(r stage) bool {
	for k := range s.members() {
		if r[k] {
			return true
		}
	}
	return false
}

// joined returns for each member of timbers those with which it has a joint.
func joined(t api.Timbers) [][]int {
	all := make([][]int, len(t.Members))
	for _, j := range t.Joints {
		a, _ := find(t, j.A)
		b, _ := find(t, j.B)
		all[a], all[b] = append(all[a], b), append(all[b], a)
	}
	return all
}

// partsOf goes through the parts of a stage, in the order of their least members.
func partsOf(s stage, joined [][]int) iter.Seq[stage] {
	return func(yield func(stage) bool) {
		var seen, part stage
		var visit func(k int)
		visit = func(k int) {
			if !s[k] || part[k] {
				return
			}
			seen[k], part[k] = true, true
			for _, other := range joined[k] {
				visit(other)
			}
		}
		for k := range s.members() {
			if seen[k] {
				continue
			}
			part = stage{}
			visit(k)
			if !yield(part) {
				return
			}
		}
	}
}

// centre returns the centre of mass of some members, and whether they have bodies.
func (f *frame) centre(s stage) (space.Vector, bool) {
	var volume space.Number
	var moment space.Vector
	for k := range s.members() {
		volume = volume.Plus(f.members[k].volume())
		moment = moment.Plus(f.members[k].moment())
	}
	if volume.IsZero() {
		return space.Vector{}, false
	}
	return moment.Scaled(space.Integer(1).Over(volume)), true
}

// plan returns the place of a point in the plan.
func plan(p space.Vector) point { return point{p[0], p[1]} }

// grounded returns the places of points on the ground of bodies, among them all corners of what they have there.
func grounded(b solid.Bodies) []point {
	// Bodies that reach through the ground have their corners there when they are cut.
	below := b.Cut(space.Half{N: space.Integers([3]int{0, 0, 1})})
	var places []point
	for p := range slices.Concat(b, below).Corners() {
		if p[2].IsZero() {
			places = append(places, plan(p))
		}
	}
	return places
}

// feet returns the corners of the feet of some members.
func (f *frame) feet(s stage) []point {
	var places []point
	for k := range s.members() {
		places = append(places, f.members[k].feet()...)
	}
	return hull(places)
}

// balances reports whether a part stands on its feet, or has no bodies.
func (f *frame) balances(part stage) bool {
	centre, ok := f.centre(part)
	return !ok || contains(f.feet(part), plan(centre))
}

// findTumbles returns the parts of a stage that stand on props alone, in the order of their least members.
func (f *frame) findTumbles(s stage) []stage {
	var l []stage
	for part := range partsOf(s, f.joined) {
		if !f.balances(part) {
			l = append(l, part)
		}
	}
	return l
}

// falling goes through the parts of a stage that do not stand with props, in the order of their least members.
func (f *frame) falling(s, props stage) iter.Seq[stage] {
	return func(yield func(stage) bool) {
		for _, part := range f.tumbles(s) {
			if !part.meets(props) && !yield(part) {
				return
			}
		}
	}
}

// stands reports whether all parts of a stage stand with props.
func (f *frame) stands(s, props stage) bool {
	for range f.falling(s, props) {
		return false
	}
	return true
}
