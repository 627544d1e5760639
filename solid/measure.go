package solid

import (
	"cmp"
	"iter"
	"slices"

	"trunnel/api"
	"trunnel/space"
)

// polygon returns the corners of a facet, from the least one on.
func (b body) polygon(f facet) []space.Vector {
	points := make([]space.Vector, len(f.ring))
	least := 0
	for i, corner := range f.ring {
		points[i] = b.corners[corner]
		if comparePoints(points[i], points[least]) < 0 {
			least = i
		}
	}
	return slices.Concat(points[least:], points[:least])
}

// area returns the area vector of the facet of a half-space, or 0 if there is none.
func (b body) area(h space.Half) space.Vector {
	var sum space.Vector
	for _, f := range b.facets {
		if !isSame(f.half, h) {
			continue
		}
		first := b.corners[f.ring[0]]
		for i, corner := range f.ring[1:] {
			sum = sum.Plus(b.corners[f.ring[i]].Minus(first).Cross(b.corners[corner].Minus(first)))
		}
	}
	return sum.Scaled(space.Integer(1).Over(space.Integer(2)))
}

// volume returns the volume of a body: those of the pyramids from the origin to its facets.
func (b body) volume() space.Number {
	volume, _ := b.moments()
	return volume
}

// moments returns the volume of a body, and its centre of mass times the volume.
// Both are sums over tetrahedra from the origin to triangles of the facets, which count
// as negative where the origin is outside.
func (b body) moments() (space.Number, space.Vector) {
	var volume space.Number
	var moment space.Vector
	for _, f := range b.facets {
		o := b.corners[f.ring[0]]
		for i, corner := range f.ring[2:] {
			p, q := b.corners[f.ring[i+1]], b.corners[corner]
			box := o.Dot(p.Cross(q))
			volume = volume.Plus(box)
			moment = moment.Plus(o.Plus(p).Plus(q).Scaled(box))
		}
	}
	return volume.Over(space.Integer(6)), moment.Scaled(space.Integer(1).Over(space.Integer(24)))
}

// Volume returns the volume of all bodies.
func (b Bodies) Volume() space.Number {
	var volume space.Number
	for _, one := range b {
		volume = volume.Plus(one.volume())
	}
	return volume
}

// Moment returns the centre of mass of all bodies times their volume.
func (b Bodies) Moment() space.Vector {
	var moment space.Vector
	for _, one := range b {
		_, more := one.moments()
		moment = moment.Plus(more)
	}
	return moment
}

// Corners goes through the corners of all bodies. Those of several bodies come several times.
func (b Bodies) Corners() iter.Seq[space.Vector] {
	return func(yield func(space.Vector) bool) {
		for _, one := range b {
			for _, p := range one.corners {
				if !yield(p) {
					return
				}
			}
		}
	}
}

// Corners returns the corners of a body.
func Corners(b api.Body) ([]api.Vec, api.Errno) {
	r, e := readBody(b)
	if e != api.OK {
		return nil, e
	}
	return writePoints(slices.SortedFunc(slices.Values(r.corners), comparePoints))
}

// Facets returns the corners of the facets of a body.
func Facets(b api.Body) ([][]api.Vec, api.Errno) {
	r, e := readBody(b)
	if e != api.OK {
		return nil, e
	}
	facets := make([][]api.Vec, len(r.facets))
	for i, f := range r.facets {
		if facets[i], e = writePoints(r.polygon(f)); e != api.OK {
			return nil, e
		}
	}
	return facets, api.OK
}

// Areas returns the area vectors of the facets of a body.
func Areas(b api.Body) ([]api.Vec, api.Errno) {
	r, e := readBody(b)
	if e != api.OK {
		return nil, e
	}
	areas := make([]space.Vector, len(r.facets))
	for i, f := range r.facets {
		areas[i] = r.area(f.half)
	}
	return writePoints(areas)
}

// Volume returns the volume of a solid.
func Volume(s api.Solid) (api.Rat, api.Errno) {
	bodies, e := Read(s)
	if e != api.OK {
		return "", e
	}
	return bodies.Volume().Write()
}

// Centre returns the centre of mass of a solid.
func Centre(s api.Solid) (api.Vec, api.Errno) {
	bodies, e := Read(s)
	switch {
	case e != api.OK:
		return api.Vec{}, e
	case len(bodies) == 0:
		return api.Vec{}, api.ErrEmpty
	}
	return bodies.Moment().Scaled(space.Integer(1).Over(bodies.Volume())).Write()
}

// extent returns the least and the greatest product of a vector with a point of bodies, of which there is one at least.
func extent(d space.Vector, bodies ...body) (least, most space.Number) {
	var products []space.Number
	for _, b := range bodies {
		for _, p := range b.corners {
			products = append(products, d.Dot(p))
		}
	}
	return slices.MinFunc(products, space.Number.Compare), slices.MaxFunc(products, space.Number.Compare)
}

// Extent returns the least and the greatest product of a vector with a point of a solid.
func Extent(s api.Solid, d api.Vec) (api.Rat, api.Rat, api.Errno) {
	bodies, errS := Read(s)
	way, errD := space.ReadVec(d)
	if e := cmp.Or(errS, errD); e != api.OK {
		return "", "", e
	}
	if len(bodies) == 0 {
		return "", "", api.ErrEmpty
	}
	least, most := extent(way, bodies...)
	low, errLow := least.Write()
	high, errHigh := most.Write()
	if e := cmp.Or(errLow, errHigh); e != api.OK {
		return "", "", e
	}
	return low, high, api.OK
}
