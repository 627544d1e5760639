package solid

import (
	"cmp"
	"maps"
	"slices"

	"trunnel/api"
	"trunnel/space"
)

// Position returns whether a point is inside a solid, on its surface, or outside.
func Position(s api.Solid, p api.Vec) (int, api.Errno) {
	bodies, errS := Read(s)
	point, errP := space.ReadVec(p)
	if e := cmp.Or(errS, errP); e != api.OK {
		return 0, e
	}
	var parts Bodies
	for _, b := range bodies {
		if halves := b.Halves(); contains(halves, point) {
			parts = append(parts, neighbourhood(halves, point))
		}
	}
	switch {
	case len(parts) == 0:
		return -1, api.OK
	case parts.Volume().Compare(cube().volume()) < 0:
		return 0, api.OK
	}
	return 1, api.OK
}

// neighbourhood returns the part of a cube round 0 in the neighbourhood of a body at a point of it.
// Those of the bodies of a solid have no common interior points either: together they contain all
// vectors if their volumes are together that of the cube.
func neighbourhood(halves []space.Half, p space.Vector) body {
	part := cube()
	for _, h := range halves {
		if h.Excess(p).IsZero() {
			part, _ = part.cut(space.Half{N: h.N})
		}
	}
	return part
}

// cube returns the cube of the vectors whose coordinates are from -1 to 1.
func cube() body {
	var halves []space.Half
	for i := range 3 {
		for _, side := range [2]int{-1, 1} {
			var n [3]int
			n[i] = side
			halves = append(halves, space.Half{N: space.Integers(n), D: space.Integer(1)})
		}
	}
	b, _ := build(halves)
	return b
}

// Touch returns the area vector with which two solids touch in a plane.
func Touch(a, b api.Solid, h api.Half) (api.Vec, api.Errno) {
	p, q, e := readSolids(a, b)
	if e = cmp.Or(e, space.CheckHalf(h)); e != api.OK {
		return api.Vec{}, e
	}
	plane, _ := space.ReadHalf(h)
	var sum space.Vector
	for _, x := range p {
		for _, y := range q {
			sum = sum.Plus(touch(x, y, plane))
		}
	}
	return sum.Write()
}

// isSame reports whether two half-spaces in their one form are the same.
func isSame(h, g space.Half) bool {
	return comparePoints(h.N, g.N) == 0 && h.D.Compare(g.D) == 0
}

// touch returns the area vector with which the facets of a in h and of b in its opposite touch, or 0.
// It is that of what all other half-spaces of b leave of the facet of a.
func touch(a, b body, h space.Half) space.Vector {
	opposite := h.Opposite()
	others := slices.DeleteFunc(b.Halves(), func(g space.Half) bool { return isSame(g, opposite) })
	if len(others) == len(b.facets) {
		return space.Vector{}
	}
	part, _ := a.cutAll(others)
	return part.area(h)
}

// Contacts returns all planes in which two solids touch.
func Contacts(a, b api.Solid) ([]api.Contact, api.Errno) {
	p, q, e := readSolids(a, b)
	if e != api.OK {
		return nil, e
	}
	areas := touching(p, q)
	contacts := make([]api.Contact, 0, len(areas))
	for _, plane := range slices.SortedFunc(maps.Keys(areas), comparePlanes) {
		area, e := areas[plane].Write()
		if e != api.OK {
			return nil, e
		}
		contacts = append(contacts, api.Contact{Plane: plane, Area: area})
	}
	return contacts, api.OK
}

// touching returns the planes in which bodies touch others, with their area vectors.
func touching(a, b Bodies) map[api.Half]space.Vector {
	areas := map[api.Half]space.Vector{}
	for _, p := range a {
		for _, q := range b {
			for _, f := range p.facets {
				if area := touch(p, q, f.half); !area.IsZero() {
					plane, _ := f.half.Write()
					areas[plane] = areas[plane].Plus(area)
				}
			}
		}
	}
	return areas
}

// comparePlanes compares half-spaces without errors by their normals, and then by D.
func comparePlanes(h, g api.Half) int {
	d, _ := space.Compare(h.D, g.D)
	return cmp.Or(compareNormals(h, g), d)
}

// Section returns the area vector of a section of a solid.
func Section(s api.Solid, h api.Half) (api.Vec, api.Errno) {
	bodies, plane, e := readCut(s, h)
	if e != api.OK {
		return api.Vec{}, e
	}
	return bodies.Section(plane).Write()
}

// Section returns the area vector of the section of all bodies.
func (b Bodies) Section(h space.Half) space.Vector {
	plane := h.Reduced() // the form that the facets of a body have
	// A part that lies in h has the section as its facet there.
	var sum space.Vector
	for _, part := range b.Cut(plane) {
		sum = sum.Plus(part.area(plane))
	}
	return sum
}
