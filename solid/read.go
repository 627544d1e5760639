package solid

import (
	"cmp"
	"slices"

	"trunnel/api"
	"trunnel/space"
)

// compareNormals compares half-spaces by their normals.
func compareNormals(h, g api.Half) int {
	return compareThree[int, [3]int](cmp.Compare[int])(h.N, g.N)
}

// readHalves returns half-spaces, and the first error of one.
func readHalves(l []api.Half) ([]space.Half, api.Errno) {
	halves := make([]space.Half, len(l))
	for i, h := range l {
		r, e := space.ReadHalf(h)
		if e != api.OK {
			return nil, e
		}
		halves[i] = r
	}
	return halves, api.OK
}

// readBody returns a body, and the error of CheckBody.
func readBody(b api.Body) (body, api.Errno) {
	if len(b) > api.MaxHalves {
		return body{}, api.ErrMany
	}
	halves, e := readHalves(b)
	if e != api.OK {
		return body{}, e
	}
	for i := range b[min(1, len(b)):] {
		if compareNormals(b[i], b[i+1]) >= 0 {
			return body{}, api.ErrOrder
		}
	}
	r, e := build(halves)
	if e == api.OK && len(r.facets) < len(b) {
		return body{}, api.ErrForm
	}
	return r, e
}

// Read returns the bodies of a solid, and the error of CheckSolid.
func Read(s api.Solid) (Bodies, api.Errno) {
	if len(s) > api.MaxBodies {
		return nil, api.ErrMany
	}
	bodies := make(Bodies, len(s))
	for i, b := range s {
		r, e := readBody(b)
		if e != api.OK {
			return nil, e
		}
		bodies[i] = r
	}
	for i, b := range bodies {
		for _, a := range bodies[:i] {
			if _, clash := common(a, b); clash {
				return nil, api.ErrClash
			}
		}
	}
	return bodies, api.OK
}

// readSolids returns the bodies of two solids, and the first error of both.
func readSolids(a, b api.Solid) (p, q Bodies, e api.Errno) {
	p, errA := Read(a)
	q, errB := Read(b)
	return p, q, cmp.Or(errA, errB)
}

// writeBody returns the body of half-spaces, none of which is superfluous: in their one form, and in order.
// The error is ErrLarge for a normal, ErrMany for the number of half-spaces, or ErrLarge for another number.
func writeBody(halves []space.Half) (api.Body, api.Errno) {
	for _, h := range halves {
		if _, e := (space.Half{N: h.N}).Write(); e != api.OK {
			return nil, e
		}
	}
	if len(halves) > api.MaxHalves {
		return nil, api.ErrMany
	}
	b := make(api.Body, len(halves))
	for i, h := range halves {
		var e api.Errno
		if b[i], e = h.Write(); e != api.OK {
			return nil, e
		}
	}
	slices.SortFunc(b, compareNormals)
	return b, api.OK
}

// Write returns the solid of bodies, or the error of a set operation with this result.
func (b Bodies) Write() (api.Solid, api.Errno) {
	if len(b) > api.MaxBodies {
		return nil, api.ErrMany
	}
	s := make(api.Solid, len(b))
	for i, one := range b {
		var e api.Errno
		if s[i], e = writeBody(one.Halves()); e != api.OK {
			return nil, e
		}
	}
	return s, api.OK
}

// writePoints returns the texts of points, or ErrLarge.
func writePoints(points []space.Vector) ([]api.Vec, api.Errno) {
	texts := make([]api.Vec, len(points))
	for i, p := range points {
		var e api.Errno
		if texts[i], e = p.Write(); e != api.OK {
			return nil, e
		}
	}
	return texts, api.OK
}
