package statics

import (
	"slices"

	"trunnel/api"
)

// Brace returns further bars that leave a truss no motion.
func Brace(t api.Truss) ([]api.Bar, api.Errno) {
	own, e := read(t)
	if e != api.OK {
		return nil, e
	}
	bars := slices.Concat(own.bars, own.unjoined())
	rows := own.reduceBars(bars).rows
	var braces []api.Bar
	for _, r := range rows {
		if r.number >= len(own.bars) {
			braces = append(braces, bars[r.number])
		}
	}
	switch {
	case len(rows) < len(own.places):
		return nil, api.ErrMoves
	case len(own.bars)+len(braces) > api.MaxBars:
		return nil, api.ErrMany
	}
	return braces, api.OK
}

// unjoined returns the pairs of nodes that no bar joins, in lexicographic order.
func (t truss) unjoined() []api.Bar {
	var pairs []api.Bar
	for from := range t.nodes {
		for to := from + 1; to < len(t.nodes); to++ {
			if pair := (api.Bar{From: from, To: to}); !slices.Contains(t.bars, pair) {
				pairs = append(pairs, pair)
			}
		}
	}
	return pairs
}
