package joint

import (
	"slices"

	"trunnel/api"
	"trunnel/solid"
)

// Contacts returns where the members of a joint touch.
func Contacts(t api.Timbers, i int) ([]api.Contact, api.Errno) {
	r, j, e := readOne(t, i)
	if e != api.OK {
		return nil, e
	}
	finished, e := r.finish(j.sides[:]...)
	if e != api.OK {
		return nil, e
	}
	return solid.Contacts(finished[0], finished[1])
}

// Joined returns the members that have a joint with a member.
func Joined(t api.Timbers, k int) ([]int, api.Errno) {
	r, e := readMember(t, k)
	if e != api.OK {
		return nil, e
	}
	var others []int
	for i, side := range r.jointsOf(k) {
		others = append(others, r.joints[i].sides[1-side])
	}
	slices.Sort(others)
	return slices.Compact(others), api.OK
}

// Groups returns for each member the least one with which it hangs together.
func Groups(t api.Timbers) ([]int, api.Errno) {
	r, e := readTimbers(t)
	if e != api.OK {
		return nil, e
	}
	groups := make([]int, len(r.members))
	for k := range groups {
		groups[k] = k
	}
	// Each round takes the least number of a group to the next members; no way leads over more than all of them.
	for range groups {
		for _, j := range r.joints {
			a, b := j.sides[0], j.sides[1]
			least := min(groups[a], groups[b])
			groups[a], groups[b] = least, least
		}
	}
	return groups, api.OK
}
