package nest_test

import (
	"slices"
	"testing"

	"trunnel/api"
	"trunnel/nest"
)

// P6.2: Best

func TestBest(t *testing.T) {
	ladder := func() []api.Beam { // of 8, 7, .. 1
		var beams []api.Beam
		for i := range 8 {
			beams = append(beams, bar(8-i))
		}
		return beams
	}
	split := []api.Beam{bar(20, [2]int{8, 10}), bar(9)}
	for _, row := range []struct {
		what   string
		beams  []api.Beam
		pieces []int
		kerf   int
		l      []api.Placing
		e      api.Errno
	}{
		{"the examples", stock(), parts(), 5, on(0, 0, 0, 50, 1, 0), api.OK},
		{"two pieces", stock(), []int{30, 40}, 5, on(0, 0, 0, 50), api.OK},
		{"one piece", stock(), []int{40}, 5, on(1, 0), api.OK},
		{"two pieces on the short beam", stock(), []int{25, 30}, 5, on(1, 0, 1, 30), api.OK},
		{"two pieces that fill a beam", stock(), []int{25, 30}, 5, on(1, 0, 1, 30), api.OK},
		{"two pieces that do not fit beside each other", stock(), []int{26, 30}, 5, on(0, 0, 0, 50), api.OK},
		{"nothing", stock(), nil, 5, nil, api.OK},
		{"no stock for nothing", nil, nil, 5, nil, api.OK},
		{"no stock", nil, []int{1}, 0, nil, api.ErrInfeasible},
		{"a piece that is too long", stock(), []int{61}, 5, nil, api.ErrInfeasible},
		{"pieces that are too long together", stock(), []int{50, 60, 45}, 5, nil, api.ErrInfeasible},
		{"a kerf that is too large", bars(1, 10), []int{5, 4}, 2, nil, api.ErrInfeasible},
		{"a kerf that fits", bars(1, 10), []int{5, 4}, 1, on(0, 0, 0, 6), api.OK},
		{"a shorter beam", []api.Beam{bar(10), bar(9), bar(9)}, []int{9}, 5, on(1, 0), api.OK},
		{"two beams that are shorter than one", []api.Beam{bar(20), bar(9), bar(10)}, []int{9, 9}, 2, on(1, 0, 2, 0), api.OK},
		{"one beam that is as long as two", []api.Beam{bar(11), bar(9), bar(20)}, []int{9, 9}, 2, on(0, 0, 1, 0), api.OK},
		{"one beam that is as long as two, ahead of them", []api.Beam{bar(20), bar(11), bar(9)}, []int{9, 9}, 2, on(0, 0, 0, 11), api.OK},
		{"a first piece at the second gap", split, []int{10, 8, 9}, 2, on(0, 10, 0, 0, 1, 0), api.OK},
		{"a first piece that makes room", []api.Beam{bar(17, [2]int{8, 10})}, []int{5, 8}, 0, on(0, 10, 0, 0), api.OK},
		{"a second piece that makes room", []api.Beam{bar(12, [2]int{5, 6})}, []int{4, 1, 5}, 1, on(0, 6, 0, 11, 0, 0), api.OK},
		{"a first piece in the middle", []api.Beam{bar(20, [2]int{8, 8}, [2]int{12, 12})}, []int{4, 8, 8}, 0, on(0, 8, 0, 0, 0, 12), api.OK},
		{"a last piece ahead of others", []api.Beam{bar(20, [2]int{4, 6})}, []int{6, 7, 4}, 1, on(0, 6, 0, 13, 0, 0), api.OK},
		{"a kerf behind a defect", []api.Beam{bar(12, [2]int{5, 6})}, []int{5, 4}, 3, on(0, 0, 0, 8), api.OK},
		{"a kerf over a gap", []api.Beam{bar(12, [2]int{3, 4}, [2]int{6, 6})}, []int{3, 2}, 2, on(0, 0, 0, 6), api.OK},
		{"equal pieces", bars(3, 10), []int{3, 3, 3, 3}, 1, on(0, 0, 0, 4, 1, 0, 1, 4), api.OK},
		{"eight pieces on a beam", bars(8, 64), []int{8, 7, 6, 5, 4, 3, 2, 1}, 4, on(0, 0, 0, 12, 0, 23, 0, 33, 0, 42, 0, 50, 0, 57, 0, 63), api.OK},
		{"eight pieces on eight beams", ladder(), []int{1, 2, 3, 4, 5, 6, 7, 8}, 9, on(7, 0, 6, 0, 5, 0, 4, 0, 3, 0, 2, 0, 1, 0, 0, 0), api.OK},
		{"eight pieces on a few of eight beams", ladder(), []int{1, 1, 1, 1, 1, 1, 1, 1}, 0, on(0, 0, 0, 1, 0, 2, 0, 3, 0, 4, 0, 5, 0, 6, 0, 7), api.OK},
		{"eight large pieces", bars(8, most), slices.Repeat([]int{most}, 8), most, on(0, 0, 1, 0, 2, 0, 3, 0, 4, 0, 5, 0, 6, 0, 7, 0), api.OK},
		{"eight pieces that do not fit", bars(7, most), slices.Repeat([]int{most}, 8), most, nil, api.ErrInfeasible},
		{"eight small pieces with a large kerf", bars(8, most), slices.Repeat([]int{1}, 8), most - 2, on(0, 0, 0, most-1, 1, 0, 1, most-1, 2, 0, 2, most-1, 3, 0, 3, most-1), api.OK},
		{"nine pieces", bars(8, 9), slices.Repeat([]int{1}, 9), 0, nil, api.ErrLimit},
		{"nine pieces that do not fit", bars(8, 9), slices.Repeat([]int{10}, 9), 0, nil, api.ErrLimit},
		{"nine beams", bars(9, 9), []int{1}, 0, nil, api.ErrLimit},
		{"nine beams for nothing", bars(9, 9), nil, 0, nil, api.ErrLimit},
		{"nine pieces with an error", bars(9, 9), make([]int, 9), 0, nil, api.ErrRange},
	} {
		l, e := nest.Best(row.beams, row.pieces, row.kerf)
		want(t, "Best of "+row.what, l, e, row.l, row.e)
	}
}

// placedBest returns what Best is by the definition: it goes through all placings in lexicographic order, but for those
// whose first pieces alone need as much as the best one so far.
func placedBest(beams []api.Beam, pieces []int, kerf int) ([]api.Placing, bool) {
	var best []api.Placing
	isThere := false
	var try func(l []api.Placing)
	try = func(l []api.Placing) {
		if !isValid(beams, pieces, kerf, l) || isThere && total(beams, l) >= total(beams, best) {
			return
		}
		if len(l) == len(pieces) {
			best, isThere = slices.Clone(l), true
			return
		}
		for number, b := range beams {
			for at := range b.Length {
				try(append(l, api.Placing{Beam: number, At: at}))
			}
		}
	}
	try(nil)
	return best, isThere
}

func TestBestOfAnyPieces(t *testing.T) {
	s := newSource(4)
	done, none, better := 0, 0, 0
	for range 4000 {
		beams, pieces, kerf := s.beams(s.Intn(5), 12), s.pieces(s.Intn(6), 5), s.Intn(4)
		l, e := nest.Best(beams, pieces, kerf)
		wanted, isThere := placedBest(beams, pieces, kerf)
		if !isThere {
			want(t, "Best", l, e, nil, api.ErrInfeasible)
			none++
			continue
		}
		want(t, "Best", l, e, wanted, api.OK)
		first, e := nest.First(beams, pieces, kerf)
		if e != api.OK || total(beams, first) > total(beams, l) {
			better++
		}
		done++
	}
	if done < 1000 || none < 500 || better < 200 {
		t.Errorf("%d placings, %d times none, and %d placings better than First", done, none, better)
	}
}

// TestBestOnOneBeam has more pieces, and more orders of them.
func TestBestOnOneBeam(t *testing.T) {
	s := newSource(5)
	done := 0
	for range 800 {
		pieces, kerf := s.pieces(5, 4), s.Intn(3)
		b := s.beam(6)
		b.Length += sum(pieces) + 4*kerf
		l, e := nest.Best([]api.Beam{b}, pieces, kerf)
		wanted, isThere := placedBest([]api.Beam{b}, pieces, kerf)
		if !isThere {
			want(t, "Best on a beam", l, e, nil, api.ErrInfeasible)
			continue
		}
		want(t, "Best on a beam", l, e, wanted, api.OK)
		done++
	}
	if done < 300 {
		t.Errorf("%d placings", done)
	}
}

// TestBestOfManyPieces has as many pieces and beams as there may be: no piece of the best placing can be moved forward
// alone, and no two of them can change their places so that the first one comes ahead.
func TestBestOfManyPieces(t *testing.T) {
	s := newSource(6)
	done := 0
	for range 60 {
		beams, pieces, kerf := s.beams(8, 40), s.pieces(8, 12), s.Intn(4)
		l, e := nest.Best(beams, pieces, kerf)
		if e != api.OK {
			wantError(t, "Best", e, api.ErrInfeasible)
			continue
		}
		done++
		wantError(t, "CheckPlacing of Best", nest.CheckPlacing(beams, pieces, kerf, l), api.OK)
		length := total(beams, l)
		for _, other := range moved(beams, l) {
			if isValid(beams, pieces, kerf, other) && total(beams, other) <= length {
				t.Errorf("Best of %v, %v, %d: got %v; %v comes ahead", beams, pieces, kerf, l, other)
			}
		}
		for _, run := range []func([]api.Beam, []int, int) ([]api.Placing, api.Errno){nest.First, nest.Falling} {
			if other, e := run(beams, pieces, kerf); e == api.OK && total(beams, other) < length {
				t.Errorf("Best of %v, %v, %d: got %v; %v is shorter", beams, pieces, kerf, l, other)
			}
		}
	}
	if done < 20 {
		t.Errorf("%d placings", done)
	}
}

// moved returns placings that come ahead of another one: with one piece moved, or with two pieces that change places.
func moved(beams []api.Beam, l []api.Placing) [][]api.Placing {
	var all [][]api.Placing
	isAhead := func(p, q api.Placing) bool { return p.Beam < q.Beam || p.Beam == q.Beam && p.At < q.At }
	for i := range l {
		for number, b := range beams {
			for at := range b.Length {
				if p := (api.Placing{Beam: number, At: at}); isAhead(p, l[i]) {
					other := slices.Clone(l)
					other[i] = p
					all = append(all, other)
				}
			}
		}
		for j := range i {
			if isAhead(l[i], l[j]) {
				other := slices.Clone(l)
				other[i], other[j] = l[j], l[i]
				all = append(all, other)
			}
		}
	}
	return all
}
