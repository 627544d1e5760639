package statics

import (
	"cmp"
	"slices"

	"trunnel/api"
	"trunnel/space"
)

// axis is the straight way between two points.
type axis [2]space.Vector

// FromAxes returns the truss of some axes.
func FromAxes(axes [][2]api.Vec) (api.Truss, api.Errno) {
	switch {
	case len(axes) == 0:
		return api.Truss{}, api.ErrEmpty
	case len(axes) > api.MaxMembers:
		return api.Truss{}, api.ErrMany
	}
	own, e := each(axes, readAxis)
	if e != api.OK {
		return api.Truss{}, e
	}
	points := distinctEnds(own)
	if len(points) > api.MaxNodes {
		return api.Truss{}, api.ErrMany
	}
	bars := barsOn(own, points)
	if len(bars) > api.MaxBars {
		return api.Truss{}, api.ErrMany
	}
	// The points have texts, since they were read from them.
	nodes, e := writeVectors(points)
	return api.Truss{Nodes: nodes, Held: supportsOf(points), Bars: bars}, e
}

func readAxis(texts [2]api.Vec) (axis, api.Errno) {
	from, errFrom := space.ReadVec(texts[0])
	to, errTo := space.ReadVec(texts[1])
	e := cmp.Or(errFrom, errTo)
	if e == api.OK && texts[0] == texts[1] {
		e = api.ErrZero
	}
	return axis{from, to}, e
}

// holds reports whether a point is on an axis.
func (a axis) holds(p space.Vector) bool {
	from, to := p.Minus(a[0]), p.Minus(a[1])
	return from.Cross(to).IsZero() && from.Dot(to).Sign() <= 0
}

// distinctEnds returns the end points of axes, each once, in the lexicographic order of their coordinates.
func distinctEnds(axes []axis) []space.Vector {
	var points []space.Vector
	for _, a := range axes {
		points = append(points, a[:]...)
	}
	slices.SortFunc(points, comparePoints)
	return slices.CompactFunc(points, func(p, q space.Vector) bool { return comparePoints(p, q) == 0 })
}

func comparePoints(p, q space.Vector) int {
	return cmp.Or(p[0].Compare(q[0]), p[1].Compare(q[1]), p[2].Compare(q[2]))
}

// supportsOf returns which coordinates of points are held: those of points with the height 0.
func supportsOf(points []space.Vector) [][3]bool {
	supports := make([][3]bool, len(points))
	for i, p := range points {
		isHeld := p[2].IsZero()
		supports[i] = [3]bool{isHeld, isHeld, isHeld}
	}
	return supports
}

// barsOn returns the bars between points that are next to each other on an axis, each once, in lexicographic order.
func barsOn(axes []axis, points []space.Vector) []api.Bar {
	var bars []api.Bar
	for _, a := range axes {
		before := -1
		// In the lexicographic order of their coordinates the points on an axis are behind each other.
		for i, p := range points {
			if !a.holds(p) {
				continue
			}
			if before >= 0 {
				bars = append(bars, api.Bar{From: before, To: i})
			}
			before = i
		}
	}
	slices.SortFunc(bars, compareBars)
	return slices.Compact(bars)
}

// compareBars compares bars lexicographically.
func compareBars(a, b api.Bar) int {
	return cmp.Or(cmp.Compare(a.From, b.From), cmp.Compare(a.To, b.To))
}
