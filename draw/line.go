package draw

import (
	"slices"

	"trunnel/space"
)

// line is a straight line in space, or on the paper, where the third coordinates are 0. It has the points at + t way,
// where the first coordinate of way that is not 0 is 1, and this coordinate of at is 0. So each line has one form, and t,
// this coordinate of a point, is in the order of the points.
type line struct {
	at, way space.Vector
	axis    int // the number of this coordinate
}

// through returns the line through two points that are not the same.
func through(p, q space.Vector) line {
	way := q.Minus(p)
	axis := slices.IndexFunc(way[:], func(x space.Number) bool { return !x.IsZero() })
	way = way.Scaled(space.Integer(1).Over(way[axis]))
	return line{p.Minus(way.Scaled(p[axis])), way, axis}
}

// point returns the point of a line with the coordinate t.
func (l line) point(t space.Number) space.Vector { return l.at.Plus(l.way.Scaled(t)) }

// between returns the span between two points of a line.
func (l line) between(p, q space.Vector) span {
	return span{lesser(p[l.axis], q[l.axis]), greater(p[l.axis], q[l.axis])}
}

// key is the text of a line: equal lines have equal ones.
type key [6]string

func (l line) key() key {
	var k key
	for i := range 3 {
		k[i], k[i+3] = l.at[i].Text(), l.way[i].Text()
	}
	return k
}

// clip returns the part of a span of a line that is in all half-spaces, those in whose planes the line lies, and whether
// the part is more than a point.
func (l line) clip(s span, halves []space.Half) (part span, beside []space.Half, ok bool) {
	for _, h := range halves {
		excess, climb := h.Excess(l.at), h.N.Dot(l.way)
		if climb.IsZero() {
			if excess.Sign() > 0 {
				return span{}, nil, false
			}
			if excess.IsZero() {
				beside = append(beside, h)
			}
			continue
		}
		t := excess.Negated().Over(climb)
		if climb.Sign() > 0 {
			s.high = lesser(s.high, t)
		} else {
			s.low = greater(s.low, t)
		}
		if s.isEmpty() {
			return span{}, nil, false
		}
	}
	return s, beside, true
}
