package statics_test

import (
	"slices"
	"testing"

	"trunnel/api"
	"trunnel/statics"
)

// Brace of P7.8

func TestBraceOfExamples(t *testing.T) {
	s := tripod()
	s.Bars = nil
	l, e := statics.Brace(s)
	want(t, "Brace without bars", l, e, bars(0, 2, 1, 2), api.OK)
	l, e = statics.Brace(hinge())
	want(t, "Brace without a bar", l, e, bars(1, 2), api.OK)
	for _, s := range []api.Truss{tripod(), closed()} {
		l, e = statics.Brace(s)
		want(t, "Brace without motions", l, e, nil, api.OK)
	}
	s.Held[2] = held
	l, e = statics.Brace(s)
	want(t, "Brace of held nodes", l, e, nil, api.OK)
}

// TestBraceThatMoves has trusses that no bars brace.
func TestBraceThatMoves(t *testing.T) {
	l, e := statics.Brace(api.Truss{Nodes: vecs("0 0 0"), Held: [][3]bool{{}}})
	want(t, "Brace of a free node", l, e, nil, api.ErrMoves)
	l, e = statics.Brace(api.Truss{Nodes: vecs("0 0 0, 1 0 0, 0 1 0, 0 0 1"), Held: make([][3]bool, 4)})
	want(t, "Brace of a frame without supports", l, e, nil, api.ErrMoves)
	s := row("0", "1", "2")
	s.Held[1] = flat
	l, e = statics.Brace(s)
	want(t, "Brace of a line", l, e, nil, api.ErrMoves)
}

// grid returns nodes without bars: some held ones in the plane of the height 0, and free ones above them, and no four of these in a plane.
func grid(supports, others int) api.Truss {
	var t api.Truss
	for i := range supports {
		t.Nodes = append(t.Nodes, api.Vec{whole(i), whole(i * i), "0"})
		t.Held = append(t.Held, held)
	}
	for i := range others {
		t.Nodes = append(t.Nodes, api.Vec{whole(i), whole(i * i), whole(i*i*i + 1)})
		t.Held = append(t.Held, loose)
	}
	return t
}

// TestBraceUpToTheLimit has trusses with as many bars as there may be, and with one more.
func TestBraceUpToTheLimit(t *testing.T) {
	s := grid(4, 21) // 63 bars
	l, e := statics.Brace(s)
	if wantError(t, "Brace", e, api.OK); len(l) != 63 || !slices.IsSortedFunc(l, compareBars) {
		t.Errorf("Brace: got %v", l)
	}
	s.Bars = bars(0, 1)
	l, e = statics.Brace(s)
	if wantError(t, "Brace with a further bar", e, api.OK); len(l) != 63 {
		t.Errorf("Brace: got %v", l)
	}
	s.Bars = bars(0, 1, 0, 2)
	l, e = statics.Brace(s)
	want(t, "Brace with two further bars", l, e, nil, api.ErrMany)
	l, e = statics.Brace(grid(4, 22))
	want(t, "Brace of 66 free coordinates", l, e, nil, api.ErrMany)
	l, e = statics.Brace(grid(0, 32))
	want(t, "Brace of 96 free coordinates that move", l, e, nil, api.ErrMoves)
	s = grid(13, 0)
	s.Bars = pairs(12)[:64]
	l, e = statics.Brace(s)
	want(t, "Brace of 64 bars without motions", l, e, nil, api.OK)
	s.Held[12] = onLine
	l, e = statics.Brace(s)
	want(t, "Brace of 64 bars with a motion", l, e, nil, api.ErrMany)
}

// pairs returns the bars between all of some nodes, those to the first ones first.
func pairs(nodes int) []api.Bar {
	var l []api.Bar
	for to := range nodes {
		for from := range to {
			l = append(l, api.Bar{From: from, To: to})
		}
	}
	return l
}

// TestBraceAgainstItsDefinition takes one pair of nodes after another, and looks whether it raises the rank.
func TestBraceAgainstItsDefinition(t *testing.T) {
	s := newSource(7)
	count := map[api.Errno]int{}
	for range 300 {
		f := s.truss(6)
		wanted, errWanted := bracesOf(f)
		count[errWanted]++
		l, e := statics.Brace(f)
		want(t, "Brace", l, e, wanted, errWanted)
	}
	if count[api.OK] < 50 || count[api.ErrMoves] < 50 {
		t.Errorf("errors: %v", count)
	}
}

func bracesOf(f api.Truss) ([]api.Bar, api.Errno) {
	var braces []api.Bar
	f.Bars = slices.Clone(f.Bars)
	rank := rankOf(matrixOf(f))
	for from := range f.Nodes {
		for to := from + 1; to < len(f.Nodes); to++ {
			bar := api.Bar{From: from, To: to}
			if slices.Contains(f.Bars, bar) {
				continue
			}
			f.Bars = append(f.Bars, bar)
			if higher := rankOf(matrixOf(f)); higher > rank {
				rank = higher
				braces = append(braces, bar)
			} else {
				f.Bars = f.Bars[:len(f.Bars)-1]
			}
		}
	}
	if free, _ := freeOf(f, readAll(f.Nodes)); rank < len(free) {
		return nil, api.ErrMoves
	}
	return braces, api.OK
}
