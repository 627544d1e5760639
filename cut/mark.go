package cut

import (
	"cmp"
	"slices"

	"trunnel/api"
	"trunnel/space"
)

// Mark is the outline of a cut on a face, in the coordinates of the face.
type Mark struct {
	Cut    int
	Face   string
	Points [][2]api.Rat
}

// point is a place on a face, in its own coordinates.
type point [2]space.Number

func comparePoints(p, q point) int {
	return cmp.Or(p[0].Compare(q[0]), p[1].Compare(q[1]))
}

// turn returns 1, 0 or -1 if the way from p over q to r turns left, not at all, or right.
func turn(p, q, r point) int {
	left := q[0].Minus(p[0]).Times(r[1].Minus(p[1]))
	right := q[1].Minus(p[1]).Times(r[0].Minus(p[0]))
	return left.Compare(right)
}

// write returns the texts of a point, or ErrLarge.
func (p point) write() ([2]api.Rat, api.Errno) {
	first, errFirst := p[0].Write()
	second, errSecond := p[1].Write()
	return [2]api.Rat{first, second}, cmp.Or(errFirst, errSecond)
}

// outline returns the corners of the facet of a region in the face of its cut, in their order.
func (w work) outline(i int, s system) []point {
	f := w.steps[i].face
	own := sides[f].own
	var points []point
	for p := range w.regions[i].Corners() {
		if w.planes[f].Excess(p).IsZero() {
			points = append(points, point{s.coordinate(own[0], p), s.coordinate(own[1], p)})
		}
	}
	if len(points) < 3 { // an edge or a corner is no facet
		return nil
	}
	slices.SortFunc(points, comparePoints)
	// They are the corners of a convex polygon, and seen from the first one no two lie in the same direction.
	slices.SortFunc(points[1:], func(p, q point) int { return turn(points[0], q, p) })
	return points
}

// Marks returns the outlines of the cuts on their faces.
func Marks(m api.Member, l []api.Cut) ([]Mark, api.Errno) {
	w, e := layOut(m, l)
	if e != api.OK {
		return nil, e
	}
	s := systemOf(m.Frame)
	marks := make([]Mark, len(l))
	for i, c := range l {
		points, e := each(w.outline(i, s), point.write)
		if e != api.OK {
			return nil, e
		}
		marks[i] = Mark{i, c.Face, points}
	}
	return marks, api.OK
}

// Bevels returns the slopes of a saw cut on the faces.
func Bevels(c api.Cut) ([]api.Rat, api.Errno) {
	r, e := readStep(c)
	if e != api.OK {
		return nil, e
	}
	s, ok := r.shape.(saw)
	if !ok {
		return nil, api.ErrKind
	}
	n := s.N
	return each([]point{{n[0], n[1]}, {n[0], n[2]}, {n[1], n[2]}}, slope)
}

// slope returns how far the trace of a normal with two coordinates rises along the second one for each step along
// the first one, or an empty text if it leads along the second one alone.
func slope(normal point) (api.Rat, api.Errno) {
	if normal[1].IsZero() {
		return "", api.OK
	}
	return normal[0].Negated().Over(normal[1]).Write()
}
