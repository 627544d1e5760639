package yard

import (
	"slices"

	"trunnel/api"
	"trunnel/joint"
)

// Diff returns what has changed between two timbers.
func Diff(a, b api.Timbers) ([]Change, api.Errno) {
	if e := checkAll(a, b); e != api.OK {
		return nil, e
	}
	var changes []Change
	inA, inB := byName(a.Members), byName(b.Members)
	for _, m := range a.Members {
		switch other, ok := inB[m.Name]; {
		case !ok:
			changes = append(changes, Change{Kind: "drop", Name: m.Name})
		case other != m:
			changes = append(changes, Change{Kind: "alter", Name: m.Name})
		}
	}
	for _, m := range b.Members {
		if _, ok := inA[m.Name]; !ok {
			changes = append(changes, Change{Kind: "add", Name: m.Name})
		}
	}
	for _, j := range without(a.Joints, b.Joints) {
		changes = append(changes, Change{Kind: "unjoin", Joint: j})
	}
	for _, j := range without(b.Joints, a.Joints) {
		changes = append(changes, Change{Kind: "join", Joint: j})
	}
	return changes, api.OK
}

// checkAll returns the first error of several timbers.
func checkAll(all ...api.Timbers) api.Errno {
	for _, t := range all {
		if e := joint.CheckTimbers(t); e != api.OK {
			return e
		}
	}
	return api.OK
}

// byName returns members by their names.
func byName(members []api.Member) map[string]api.Member {
	named := map[string]api.Member{}
	for _, m := range members {
		named[m.Name] = m
	}
	return named
}

// without returns copies of the joints that others do not have.
func without(joints, others []api.Joint) []api.Joint {
	var left []api.Joint
	for _, j := range joints {
		if !has(others, j) {
			left = append(left, copied(j))
		}
	}
	return left
}

// has reports whether there is an equal joint.
func has(joints []api.Joint, wanted api.Joint) bool {
	return slices.ContainsFunc(joints, func(j api.Joint) bool {
		return j.Kind == wanted.Kind && j.A == wanted.A && j.B == wanted.B && slices.Equal(j.Numbers, wanted.Numbers)
	})
}

// copied returns a joint that shares no memory with it.
func copied(j api.Joint) api.Joint {
	j.Numbers = slices.Clone(j.Numbers)
	return j
}

// Merge returns timbers with the changes of both, or the members that both changed.
func Merge(base, a, b api.Timbers) (api.Timbers, []string, api.Errno) {
	if e := checkAll(base, a, b); e != api.OK {
		return api.Timbers{}, nil, e
	}
	return merge(base, a, b)
}

// merge is Merge of timbers without errors.
func merge(base, a, b api.Timbers) (api.Timbers, []string, api.Errno) {
	members, conflicts := mergeMembers(base.Members, a.Members, b.Members)
	if len(conflicts) > 0 {
		slices.Sort(conflicts)
		return api.Timbers{}, conflicts, api.ErrConflict
	}
	merged, e := checked(api.Timbers{Members: members, Joints: mergeJoints(base.Joints, a.Joints, b.Joints)})
	return merged, nil, e
}

// mergeMembers returns the members of a merge, and the names that are in conflict.
func mergeMembers(base, a, b []api.Member) (members []api.Member, conflicts []string) {
	inBase, inA, inB := byName(base), byName(a), byName(b)
	for i, m := range slices.Concat(a, b) {
		if _, ok := inA[m.Name]; ok && i >= len(a) {
			continue
		}
		agreed, ok := agree(inBase[m.Name], inA[m.Name], inB[m.Name])
		switch {
		case !ok:
			conflicts = append(conflicts, m.Name)
		case agreed.Name != "": // the member that is not there has no name
			members = append(members, agreed)
		}
	}
	return members, conflicts
}

// agree returns what two sides make of a value, and whether they are not in conflict: at most one of them changed it,
// or both did in the same way.
func agree[T comparable](base, a, b T) (T, bool) {
	switch {
	case a == b, b == base:
		return a, true
	case a == base:
		return b, true
	}
	return *new(T), false
}

// mergeJoints returns the joints of a merge.
func mergeJoints(base, a, b []api.Joint) []api.Joint {
	var merged []api.Joint
	for _, j := range a {
		if has(b, j) || !has(base, j) {
			merged = append(merged, copied(j))
		}
	}
	return append(merged, without(without(b, a), base)...)
}
