package draw

import (
	"slices"

	"trunnel/space"
)

// span is what lies between two coordinates on a line. Single points do not matter: whether it has its ends, too, is left open.
type span struct {
	low, high space.Number
}

// isEmpty reports whether a span has a point at most.
func (s span) isEmpty() bool { return s.low.Compare(s.high) >= 0 }

func (s span) compare(t span) int { return s.low.Compare(t.low) }

// contains reports whether a span contains another one.
func (s span) contains(t span) bool { return s.low.Compare(t.low) <= 0 && s.high.Compare(t.high) >= 0 }

func lesser(a, b space.Number) space.Number {
	if a.Compare(b) <= 0 {
		return a
	}
	return b
}

func greater(a, b space.Number) space.Number {
	if a.Compare(b) >= 0 {
		return a
	}
	return b
}

// join returns the longest spans of which everything is in some spans, in ascending order.
func join(spans []span) []span {
	var joined []span
	add := func(s span) {
		last := len(joined) - 1
		if last < 0 || joined[last].high.Compare(s.low) < 0 {
			joined = append(joined, s)
			return
		}
		joined[last].high = greater(joined[last].high, s.high)
	}
	for _, s := range slices.SortedFunc(slices.Values(spans), span.compare) {
		add(s)
	}
	return joined
}

// without returns what is left of spans behind others.
func without(spans, others []span) []span {
	for _, o := range others {
		var left []span
		for _, s := range spans {
			left = append(left, span{s.low, lesser(s.high, o.low)}, span{greater(s.low, o.high), s.high})
		}
		spans = slices.DeleteFunc(left, span.isEmpty)
	}
	return spans
}
