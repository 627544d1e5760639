package draw

import (
	"cmp"
	"iter"
	"slices"

	"trunnel/api"
	"trunnel/solid"
	"trunnel/space"
)

// stroke is a line of a drawing.
type stroke struct {
	from, to place
	isHidden bool
}

// compare compares strokes by their first places, then by their last ones; visible ones come before hidden ones.
func (s stroke) compare(t stroke) int {
	order := cmp.Or(s.from.compare(t.from), s.to.compare(t.to))
	switch {
	case order != 0 || s.isHidden == t.isHidden:
		return order
	case t.isHidden:
		return -1
	}
	return 1
}

// write returns the texts of a stroke, or ErrLarge.
func (s stroke) write() (api.Line, api.Errno) {
	from, errFrom := s.from.write()
	to, errTo := s.to.write()
	if e := cmp.Or(errFrom, errTo); e != api.OK {
		return api.Line{}, e
	}
	return api.Line{From: from, To: to, Hidden: s.isHidden}, api.OK
}

// marks are the visible and the hidden spans that edges leave on a line.
type marks struct {
	visible, hidden []span
}

// drawing returns the drawing of solids.
func (v view) drawing(solids []solid.Bodies) []stroke {
	var strokes []stroke
	for l, all := range byLine(v.onPaper(solids)) {
		var visible, hidden []span
		for _, m := range all {
			visible = append(visible, m.visible...)
			hidden = append(hidden, m.hidden...)
		}
		visible = join(visible)
		strokes = append(strokes, l.strokes(visible, false)...)
		strokes = append(strokes, l.strokes(without(join(hidden), visible), true)...)
	}
	slices.SortFunc(strokes, stroke.compare)
	return strokes
}

// strokes returns spans of a line of the paper as lines of a drawing.
func (l line) strokes(spans []span, isHidden bool) []stroke {
	strokes := make([]stroke, len(spans))
	for i, s := range spans {
		strokes[i] = stroke{placeOf(l.point(s.low)), placeOf(l.point(s.high)), isHidden}
	}
	return strokes
}

// onPaper goes through the lines of the paper on which the places of edges lie, with what these edges leave there.
func (v view) onPaper(solids []solid.Bodies) iter.Seq2[line, marks] {
	covers := v.covers(solids)
	return func(yield func(line, marks) bool) {
		for _, bodies := range solids {
			for l, spans := range edges(bodies) {
				if l.way.Cross(v.toward).IsZero() {
					continue
				}
				if !yield(v.image(l, marksOf(l, spans, covers))) {
					return
				}
			}
		}
	}
}

// marksOf returns what is visible, and what is hidden, of the edges on a line.
func marksOf(l line, spans []span, covers []cover) marks {
	var hidden []span
	for _, s := range spans {
		for _, c := range covers {
			if part, ok := c.hides(l, s); ok {
				hidden = append(hidden, part)
			}
		}
	}
	return marks{without(spans, hidden), hidden}
}

// image returns the places of a line that does not lead along Toward, and of what edges leave there.
func (v view) image(l line, m marks) (line, marks) {
	image := through(v.place(l.at).point(), v.place(l.at.Plus(l.way)).point())
	move := func(spans []span) []span {
		moved := make([]span, len(spans))
		for i, s := range spans {
			moved[i] = image.between(v.place(l.point(s.low)).point(), v.place(l.point(s.high)).point())
		}
		return moved
	}
	return image, marks{move(m.visible), move(m.hidden)}
}

// point returns a place as a point whose third coordinate is 0: so lines of the paper are lines of space.
func (p place) point() space.Vector { return space.Vector{p[0], p[1]} }

// placeOf returns the place of such a point.
func placeOf(p space.Vector) place { return place{p[0], p[1]} }
