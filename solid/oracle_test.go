package solid_test

import (
	"slices"

	"trunnel/api"
	"trunnel/space"
)

// contains reports whether a point is in all half-spaces; strictly: off their planes.
func contains(halves []api.Half, p api.Vec, strictly bool) bool {
	for _, h := range halves {
		if side := sure(space.Side(h, p)); side > 0 || strictly && side == 0 {
			return false
		}
	}
	return true
}

// comparePoints compares points by their coordinates.
func comparePoints(a, b api.Vec) int {
	for i := range a {
		if c := sure(space.Compare(a[i], b[i])); c != 0 {
			return c
		}
	}
	return 0
}

// corners returns the corners of half-spaces, in order.
func corners(halves []api.Half) []api.Vec {
	seen := map[api.Vec]bool{}
	var points []api.Vec
	for i, a := range halves {
		for j, b := range halves[:i] {
			for _, c := range halves[:j] {
				p, e := space.Crossing(a, b, c)
				if e == api.OK && !seen[p] && contains(halves, p, false) {
					seen[p] = true
					points = append(points, p)
				}
			}
		}
	}
	slices.SortFunc(points, comparePoints)
	return points
}

// middle returns the mean of points.
func middle(points []api.Vec) api.Vec {
	sum := origin()
	for _, p := range points {
		sum = sure(space.AddVec(sum, p))
	}
	return sure(space.Scale(sure(space.Of(1, len(points))), sum))
}

// hasInterior reports whether bounded half-spaces have interior points.
func hasInterior(halves []api.Half) bool {
	points := corners(halves)
	return len(points) > 0 && contains(halves, middle(points), true)
}

// isBounded reports whether every direction leads out of half-spaces with normals in three directions at least:
// otherwise one leads along two of the planes that does not.
func isBounded(halves []api.Half) bool {
	if rank(halves) < 3 {
		return false
	}
	for i, a := range halves {
		for _, b := range halves[:i] {
			way := sure(space.Cross(normal(a), normal(b)))
			for _, c := range []api.Rat{"1", "-1"} {
				v := sure(space.Scale(c, way))
				leads := func(h api.Half) bool { return sure(space.Compare(sure(space.Dot(normal(h), v)), "0")) > 0 }
				if v != origin() && !slices.ContainsFunc(halves, leads) {
					return false
				}
			}
		}
	}
	return true
}

// rank returns 3 if three planes meet in one point, and less otherwise.
func rank(halves []api.Half) int {
	for i, a := range halves {
		for j, b := range halves[:i] {
			for _, c := range halves[:j] {
				if _, e := space.Crossing(a, b, c); e == api.OK {
					return 3
				}
			}
		}
	}
	return 0
}

// normal returns the normal of a half-space as a vector.
func normal(h api.Half) api.Vec { return api.Vec{integer(h.N[0]), integer(h.N[1]), integer(h.N[2])} }

// onPlane returns the points of a plane.
func onPlane(points []api.Vec, h api.Half) []api.Vec {
	return slices.DeleteFunc(slices.Clone(points), func(p api.Vec) bool { return sure(space.Side(h, p)) != 0 })
}

// bodyOf returns the body of half-spaces, or no body and the error of Normal but for ErrMany.
func bodyOf(halves []api.Half) (api.Body, api.Errno) {
	if !isBounded(halves) {
		return nil, api.ErrOpen
	}
	if !hasInterior(halves) {
		return nil, api.ErrEmpty
	}
	points := corners(halves)
	var b api.Body
	for _, h := range halves {
		if len(onPlane(points, h)) >= 3 && !slices.Contains(b, h) {
			b = append(b, h)
		}
	}
	slices.SortFunc(b, func(h, g api.Half) int { return slices.Compare(h.N[:], g.N[:]) })
	return b, api.OK
}

// join returns the half-spaces of several lists.
func join(lists ...[]api.Half) []api.Half { return slices.Concat(lists...) }

// common returns the body of the half-spaces of two bodies, and whether they have common interior points.
func common(a, b []api.Half) (api.Body, bool) {
	body, e := bodyOf(join(a, b))
	return body, e == api.OK
}

// and, minus, and cut follow the definitions of the set operations.
func and(a, b api.Solid) api.Solid {
	var all api.Solid
	for _, p := range a {
		for _, q := range b {
			if body, ok := common(p, q); ok {
				all = append(all, body)
			}
		}
	}
	return all
}

func minus(a, b api.Solid) api.Solid {
	left := a
	for _, q := range b {
		var next api.Solid
		for _, p := range left {
			if _, ok := common(p, q); !ok {
				next = append(next, p)
				continue
			}
			for i, h := range q {
				if body, ok := common(p, join(q[:i], []api.Half{sure(space.Opposite(h))})); ok {
					next = append(next, body)
				}
			}
		}
		left = next
	}
	return left
}

func cut(s api.Solid, h api.Half) api.Solid {
	var all api.Solid
	for _, b := range s {
		if body, ok := common(b, []api.Half{h}); ok {
			all = append(all, body)
		}
	}
	return all
}

// area returns the area vector of a polygon in order.
func area(polygon []api.Vec) api.Vec {
	sum := origin()
	for i, p := range polygon {
		sum = sure(space.AddVec(sum, sure(space.Cross(p, polygon[(i+1)%len(polygon)]))))
	}
	return sure(space.Scale("1/2", sum))
}

// inOrder returns the corners of a facet counterclockwise, seen from where the normal leads, from the least one on.
func inOrder(points []api.Vec, h api.Half) []api.Vec {
	points = slices.Clone(points)
	ring := points[:1:1]
	for len(ring) < len(points) {
		last := ring[len(ring)-1]
		for _, next := range points {
			// All others are to the left of the way to the next corner.
			if next != last && !slices.ContainsFunc(points, func(p api.Vec) bool { return turn(last, next, p, h) < 0 }) {
				ring = append(ring, next)
				break
			}
		}
	}
	return ring
}

// turn returns 1, 0 or -1 if the way from a over b to c turns left, not at all, or right, seen from where the normal leads.
func turn(a, b, c api.Vec, h api.Half) int {
	n := sure(space.Cross(sure(space.SubVec(b, a)), sure(space.SubVec(c, a))))
	return sure(space.Compare(sure(space.Dot(n, normal(h))), "0"))
}

// facetArea returns the area vector of what half-spaces have in the plane of one more.
func facetArea(halves []api.Half, h api.Half) api.Vec {
	points := onPlane(corners(join(halves, []api.Half{h, sure(space.Opposite(h))})), h)
	if len(points) < 3 {
		return origin()
	}
	return area(inOrder(points, h))
}

// volume returns the volume of a body: that of the pyramids from its middle to its facets.
func volume(b api.Body) api.Rat {
	points := corners(b)
	sum := api.Rat("0")
	for _, h := range b {
		facet := onPlane(points, h)
		height := sure(space.SubVec(facet[0], middle(points)))
		sum = sure(space.Add(sum, sure(space.Dot(height, area(inOrder(facet, h))))))
	}
	return sure(space.Div(sum, "3"))
}

// centre returns the centre of mass of a body: of pyramids from its middle to triangles of its facets.
func centre(b api.Body) api.Vec {
	points := corners(b)
	top, sum := middle(points), origin()
	for _, h := range b {
		ring := inOrder(onPlane(points, h), h)
		for i := 1; i+1 < len(ring); i++ {
			triangle := []api.Vec{ring[0], ring[i], ring[i+1]}
			weight := sure(space.Div(sure(space.Dot(sure(space.SubVec(ring[0], top)), area(triangle))), "3"))
			sum = sure(space.AddVec(sum, sure(space.Scale(weight, middle(append(triangle, top))))))
		}
	}
	return sure(space.Scale(sure(space.Div("1", volume(b))), sum))
}

// touch returns the area vector with which two solids touch in a plane.
func touch(a, b api.Solid, h api.Half) api.Vec {
	opposite := sure(space.Opposite(h))
	sum := origin()
	for _, p := range a {
		for _, q := range b {
			if slices.Contains(p, h) && slices.Contains(q, opposite) {
				sum = sure(space.AddVec(sum, facetArea(join(p, q), h)))
			}
		}
	}
	return sum
}
