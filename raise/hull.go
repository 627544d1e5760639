package raise

import (
	"cmp"
	"slices"

	"trunnel/space"
)

// point is a point in the plan.
type point [2]space.Number

// comparePoints compares points by their first coordinates, then by the second ones.
func comparePoints(p, q point) int {
	return cmp.Or(p[0].Compare(q[0]), p[1].Compare(q[1]))
}

// areSame reports whether two lists have the same points in the same order.
func areSame(a, b []point) bool {
	return slices.EqualFunc(a, b, func(p, q point) bool { return comparePoints(p, q) == 0 })
}

// turning returns 1 if the way from a over b to c turns left (counterclockwise), -1 if it turns right, and 0 otherwise.
func turning(a, b, c point) int {
	left := b[0].Minus(a[0]).Times(c[1].Minus(a[1]))
	return left.Compare(b[1].Minus(a[1]).Times(c[0].Minus(a[0])))
}

// wrap returns what is left of a way if the points are left out at which it does not turn left.
func wrap[P any](way []P, turning func(a, b, c P) int) []P {
	var chain []P
	for _, p := range way {
		for n := len(chain); n >= 2 && turning(chain[n-2], chain[n-1], p) <= 0; n-- {
			chain = chain[:n-1]
		}
		chain = append(chain, p)
	}
	return chain
}

// hull returns the corners of the convex hull of points (none if there are no points).
func hull(points []point) []point {
	way := slices.SortedFunc(slices.Values(points), comparePoints)
	way = slices.CompactFunc(way, func(p, q point) bool { return comparePoints(p, q) == 0 })
	if len(way) < 2 {
		return way
	}
	below := wrap(way, turning)
	slices.Reverse(way)
	above := wrap(way, turning)
	// Each of both ends where the other one begins.
	return slices.Concat(below[:len(below)-1], above[:len(above)-1])
}

// contains reports whether a point is in the convex hull with these corners: whether the hull is the same with it.
func contains(corners []point, p point) bool {
	return areSame(hull(append(slices.Clone(corners), p)), corners)
}
