package cut

import (
	"cmp"

	"trunnel/api"
	"trunnel/joint"
	"trunnel/solid"
	"trunnel/space"
)

// step is a cut without errors.
type step struct {
	kind  string
	face  face
	shape shape
}

// each returns what an operation makes of the elements of a list, and its first error.
func each[A, B any](list []A, operation func(A) (B, api.Errno)) ([]B, api.Errno) {
	made := make([]B, len(list))
	for i, x := range list {
		var e api.Errno
		if made[i], e = operation(x); e != api.OK {
			return nil, e
		}
	}
	return made, api.OK
}

// readStep returns a cut, and the error of CheckCut.
func readStep(c api.Cut) (step, api.Errno) {
	isFit, isKind := fits(c.Kind, len(c.Numbers))
	f, isFace := findFace(c.Face)
	switch {
	case !isKind:
		return step{}, api.ErrKind
	case !isFace:
		return step{}, api.ErrUnknown
	case !isFit:
		return step{}, api.ErrShape
	case len(c.Numbers) > api.MaxList:
		return step{}, api.ErrMany
	}
	numbers, e := each(c.Numbers, space.ReadNumber)
	if e != api.OK {
		return step{}, e
	}
	s := step{c.Kind, f, shapeOf(c.Kind, numbers)}
	return s, s.shape.check()
}

// readList returns the cuts of a list, and its error.
func readList(l []api.Cut) ([]step, api.Errno) {
	if len(l) > api.MaxCuts {
		return nil, api.ErrMany
	}
	return each(l, readStep)
}

// work is a list that is laid out on a member.
type work struct {
	blank   solid.Bodies
	planes  [faceCount]space.Half // of the faces
	steps   []step
	regions []solid.Bodies // of the steps
}

// layOut lays a list out on a member. The errors are those of both, and then that of the first region with one.
func layOut(m api.Member, l []api.Cut) (work, api.Errno) {
	blank, errM := joint.Blank(m)
	steps, errL := readList(l)
	if e := cmp.Or(errM, errL); e != api.OK {
		return work{}, e
	}
	regions, e := each(steps, func(s step) (solid.Bodies, api.Errno) { return s.region(m.Frame, blank) })
	if e != api.OK {
		return work{}, e
	}
	w := work{steps: steps, regions: regions}
	w.blank, _ = solid.Read(blank)
	for f, h := range planes(m) {
		w.planes[f], _ = space.ReadHalf(h)
	}
	return w, api.OK
}

// region returns what a cut takes from a blank.
func (s step) region(f api.Frame, blank api.Solid) (solid.Bodies, api.Errno) {
	region := blank
	for _, h := range s.shape.halves() {
		made, e := h.Write()
		if e != api.OK {
			return nil, e
		}
		placed, e := space.PlaceHalf(f, made)
		if e != api.OK {
			return nil, e
		}
		if region, e = solid.Cut(region, placed); e != api.OK {
			return nil, e
		}
	}
	return solid.Read(region)
}

// open returns the area vector of the facets that bodies have in the face of a cut.
func (w work) open(i int, b solid.Bodies) space.Vector {
	// All bodies are inside of this face: what they have in its plane are facets.
	return b.Section(w.planes[w.steps[i].face])
}
