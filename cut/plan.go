package cut

import (
	"slices"

	"trunnel/api"
	"trunnel/joint"
	"trunnel/solid"
	"trunnel/space"
)

// checkNumber returns the first error of timbers and of the number of a member.
func checkNumber(t api.Timbers, k int) api.Errno {
	if e := joint.CheckTimbers(t); e != api.OK {
		return e
	}
	if k < 0 || k >= len(t.Members) {
		return api.ErrUnknown
	}
	return api.OK
}

// Plan returns a list of cuts for a member of a frame.
func Plan(t api.Timbers, k int) ([]api.Cut, api.Errno) {
	if e := checkNumber(t, k); e != api.OK {
		return nil, e
	}
	bodies, e := removed(t, k)
	if e != api.OK {
		return nil, e
	}
	m := t.Members[k]
	p := planner{systemOf(m.Frame), planes(m)}
	cuts, e := each(bodies, p.cut)
	if e != api.OK {
		return nil, e
	}
	if len(cuts) > api.MaxCuts {
		return nil, api.ErrMany
	}
	return cuts, api.OK
}

// removed returns the bodies that the joints of a member take from what is left of it, joint by joint.
func removed(t api.Timbers, k int) (api.Solid, api.Errno) {
	blank, _ := joint.Blank(t.Members[k])
	rest, _ := solid.Read(blank)
	var all api.Solid
	for i := range t.Joints {
		taken, e := takenFrom(t, k, i)
		if e != api.OK {
			return nil, e
		}
		both, e := rest.And(taken).Write()
		if e != api.OK {
			return nil, e
		}
		all = append(all, both...)
		rest = rest.Minus(taken)
		if e := errorOf(rest); e != api.OK {
			return nil, e
		}
	}
	return all, api.OK
}

// takenFrom returns what a joint takes from a member: nothing, unless it is one of its own.
func takenFrom(t api.Timbers, k, i int) (solid.Bodies, api.Errno) {
	name, j := t.Members[k].Name, t.Joints[i]
	if j.A != name && j.B != name {
		return nil, api.OK
	}
	taken, fromB, e := joint.Taken(t, i)
	if e != api.OK {
		return nil, e
	}
	if j.B == name {
		taken = fromB
	}
	return solid.Read(taken)
}

// planner makes cuts of bodies in the blank of a member.
type planner struct {
	system
	planes [faceCount]api.Half // of the faces
}

// cut returns the cut that takes a body.
func (p planner) cut(b api.Body) (api.Cut, api.Errno) {
	var inner []space.Half
	for _, h := range b {
		if !slices.Contains(p.planes[:], h) {
			inner = append(inner, p.local(h))
		}
	}
	kind := "pocket"
	if len(inner) == 1 {
		// A saw is described by what it takes.
		kind, inner[0] = "saw", inner[0].Opposite()
	}
	numbers, e := each(fours(inner...), space.Number.Write)
	if e != api.OK {
		return api.Cut{}, e
	}
	// The half-spaces of a body are not superfluous: it is open where it has that of a face.
	f := slices.IndexFunc(p.planes[:], func(h api.Half) bool { return slices.Contains(b, h) })
	if f < 0 {
		return api.Cut{}, api.ErrFace
	}
	return api.Cut{Kind: kind, Face: sides[f].name, Numbers: numbers}, api.OK
}
