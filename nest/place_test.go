package nest_test

import (
	"slices"
	"testing"

	"trunnel/api"
	"trunnel/nest"
)

// P6.2, but for Best

func TestCheckPlacing(t *testing.T) {
	for _, row := range []struct {
		what string
		l    []api.Placing
		e    api.Errno
	}{
		{"the first example", on(0, 0, 0, 50, 1, 0), api.OK},
		{"pieces beside defects and ends", on(0, 10, 0, 50, 1, 30), api.OK},
		{"pieces at the end", on(0, 0, 0, 60, 1, 30), api.OK},
		{"two placings", on(0, 0, 0, 50), api.ErrShape},
		{"four placings", on(0, 0, 0, 50, 1, 0, 1, 0), api.ErrShape},
		{"two wrong placings", on(2, 0, 2, 0), api.ErrShape},
		{"nothing", nil, api.ErrShape},
		{"a beam behind the last one", on(0, 0, 0, 50, 2, 0), api.ErrUnknown},
		{"a beam ahead of the first one", on(-1, 0, 0, 50, 1, 0), api.ErrUnknown},
		{"a beam far away", on(huge, 0, 0, 50, 1, 0), api.ErrUnknown},
		{"a beam that is not there, and a wrong place", on(2, -1, 0, 50, 1, 0), api.ErrUnknown},
		{"a place ahead of the beginning", on(0, -1, 0, 50, 1, 0), api.ErrRange},
		{"a place far ahead of the beginning", on(0, -huge-1, 0, 50, 1, 0), api.ErrRange},
		{"a place behind the end", on(0, 0, 0, 61, 1, 0), api.ErrRange},
		{"a place behind the end of the short beam", on(0, 0, 0, 50, 1, 31), api.ErrRange},
		{"a place far behind the end", on(0, huge, 0, 50, 1, 0), api.ErrRange},
		{"a place whose end is far behind the end", on(0, huge-29, 0, 50, 1, 0), api.ErrRange},
		{"a place over a defect", on(0, 11, 0, 60, 1, 0), api.ErrFace},
		{"a place from a defect", on(0, 49, 0, 60, 1, 0), api.ErrFace},
		{"a place over a defect ahead of a wrong one", on(1, 0, 0, 20, 1, 31), api.ErrFace},
		{"the same place", on(1, 0, 0, 50, 1, 0), api.ErrClash},
		{"a kerf that is too small", on(1, 0, 0, 50, 1, 30), api.ErrClash},
		{"the pieces the other way round", on(1, 30, 0, 50, 1, 0), api.ErrClash},
		{"a clash ahead of a beam that is not there", on(0, 50, 0, 50, 2, 0), api.ErrClash},
		{"a beam that is not there ahead of a clash", on(2, 0, 0, 50, 0, 50), api.ErrUnknown},
		{"a clash ahead of a wrong place", on(0, 0, 0, 0, 0, 11), api.ErrClash},
		{"a wrong place that would clash, too", on(0, 5, 0, 1, 0, 50), api.ErrFace},
	} {
		wantError(t, "CheckPlacing of "+row.what, nest.CheckPlacing(stock(), parts(), 5, row.l), row.e)
	}
}

func TestKerfs(t *testing.T) {
	split := []api.Beam{bar(60, [2]int{20, 23})}
	for _, row := range []struct {
		what  string
		beams []api.Beam
		kerf  int
		l     []api.Placing
		e     api.Errno
	}{
		{"as much as the kerf", stock()[1:], 5, on(0, 25, 0, 0), api.OK},
		{"1 less than the kerf", stock()[1:], 5, on(0, 24, 0, 0), api.ErrClash},
		{"as much as the kerf, the other way round", stock()[1:], 5, on(0, 0, 0, 25), api.OK},
		{"1 less than the kerf, the other way round", stock()[1:], 5, on(0, 0, 0, 24), api.ErrClash},
		{"no kerf", stock()[1:], 0, on(0, 20, 0, 0), api.OK},
		{"no kerf, and 1 in common", stock()[1:], 0, on(0, 19, 0, 0), api.ErrClash},
		{"a defect that is as long as the kerf", split, 3, on(0, 23, 0, 0), api.OK},
		{"a defect that is shorter than the kerf", split, 4, on(0, 23, 0, 0), api.ErrClash},
		{"the kerf behind a shorter defect", split, 4, on(0, 24, 0, 0), api.OK},
		{"a large kerf", split, most, on(0, 24, 0, 0), api.ErrClash},
		{"a place in which there is a defect", []api.Beam{bar(60, [2]int{19, 19})}, 0, on(0, 0, 0, 20), api.ErrFace},
		{"a place beside which there is a defect", []api.Beam{bar(60, [2]int{20, 20})}, 0, on(0, 0, 0, 20), api.OK},
		{"several beams", bars(2, 20), 5, on(0, 0, 1, 0), api.OK},
	} {
		wantError(t, "CheckPlacing with "+row.what, nest.CheckPlacing(row.beams, []int{20, 20}, row.kerf, row.l), row.e)
	}
}

func TestLength(t *testing.T) {
	for _, row := range []struct {
		beams         []api.Beam
		pieces        []int
		l             []api.Placing
		length, waste int
	}{
		{stock(), parts(), on(0, 0, 0, 50, 1, 0), 160, 60},
		{stock(), []int{30, 40}, on(0, 0, 0, 50), 100, 30},
		{stock(), []int{40}, on(1, 0), 60, 20},
		{stock(), []int{30, 20}, on(1, 0, 0, 0), 160, 110},
		{stock(), []int{60}, on(1, 0), 60, 0},
		{stock(), nil, nil, 0, 0},
		{nil, nil, nil, 0, 0},
		{bars(32, most), []int{most, 1}, on(31, 0, 0, 0), 2 * most, most - 1},
	} {
		length, e := nest.Length(row.beams, row.pieces, 5, row.l)
		want(t, "Length", length, e, row.length, api.OK)
		waste, e := nest.Waste(row.beams, row.pieces, 5, row.l)
		want(t, "Waste", waste, e, row.waste, api.OK)
	}
	var full []api.Placing
	for i := range 32 {
		full = append(full, api.Placing{Beam: 31 - i})
	}
	length, e := nest.Length(bars(32, most), slices.Repeat([]int{most}, 32), most, full)
	want(t, "Length of all beams", length, e, 32*most, api.OK)
	waste, e := nest.Waste(bars(32, most), slices.Repeat([]int{1}, 32), most, full)
	want(t, "Waste of all beams", waste, e, 32*(most-1), api.OK)
}

// placedFirst returns what First is by the definition: it looks at one place after another.
func placedFirst(beams []api.Beam, pieces []int, kerf int) []api.Placing {
	var l []api.Placing
next:
	for i := range pieces {
		for number, b := range beams {
			for at := range b.Length {
				p := append(l, api.Placing{Beam: number, At: at})
				if isValid(beams, pieces[:i+1], kerf, p) {
					l = p
					continue next
				}
			}
		}
		return nil
	}
	return l
}

// placedFalling returns what Falling is by the definition.
func placedFalling(beams []api.Beam, pieces []int, kerf int) []api.Placing {
	var order, sorted []int
	for length := slices.Max(append(pieces, 1)); length > 0; length-- {
		for i, x := range pieces {
			if x == length {
				order, sorted = append(order, i), append(sorted, x)
			}
		}
	}
	placed := placedFirst(beams, sorted, kerf)
	if placed == nil {
		return nil
	}
	l := make([]api.Placing, len(pieces))
	for i, k := range order {
		l[k] = placed[i]
	}
	return l
}

func TestFirstAndFalling(t *testing.T) {
	split := []api.Beam{bar(20, [2]int{8, 10}), bar(9)}
	for _, row := range []struct {
		what           string
		beams          []api.Beam
		pieces         []int
		kerf           int
		first, falling []api.Placing
	}{
		{"the examples", stock(), parts(), 5, on(0, 0, 0, 50, 1, 0), on(0, 50, 0, 0, 1, 0)},
		{"two pieces", stock(), []int{30, 40}, 5, on(0, 0, 0, 50), on(0, 50, 0, 0)},
		{"a piece for the second gap", stock(), []int{41}, 5, on(0, 50), on(0, 50)},
		{"a piece for the second beam", stock(), []int{51}, 5, on(1, 0), on(1, 0)},
		{"a piece that is too long", stock(), []int{61}, 5, nil, nil},
		{"a piece that is too long at last", stock(), []int{30, 61}, 5, nil, nil},
		{"no stock", nil, []int{1}, 0, nil, nil},
		{"nothing", stock(), nil, 5, on(), on()},
		{"no stock for nothing", nil, nil, 5, on(), on()},
		{"equal pieces", bars(2, 10), []int{3, 3, 3, 3}, 1, on(0, 0, 0, 4, 1, 0, 1, 4), on(0, 0, 0, 4, 1, 0, 1, 4)},
		{"a piece ahead of others", split, []int{10, 8, 9}, 2, on(0, 10, 0, 0, 1, 0), on(0, 10, 0, 0, 1, 0)},
		{"a piece that a kerf keeps off", split, []int{10, 8}, 3, on(0, 10, 1, 0), on(0, 10, 1, 0)},
		{"a piece between others", []api.Beam{bar(20, [2]int{6, 8})}, []int{10, 3, 2}, 1, on(0, 8, 0, 0, 0, 4), on(0, 8, 0, 0, 0, 4)},
		{"a piece that two kerfs keep off", []api.Beam{bar(19, [2]int{6, 7})}, []int{10, 3, 1}, 2, nil, nil},
		{"orders that differ in what fits", bars(2, 10), []int{4, 6, 4, 6}, 0, on(0, 0, 0, 4, 1, 0, 1, 4), on(0, 6, 0, 0, 1, 6, 1, 0)},
		{"a falling order that fits alone", bars(2, 10), []int{3, 3, 7, 7}, 0, nil, on(0, 7, 1, 7, 0, 0, 1, 0)},
		{"large numbers", bars(2, most), []int{most, most}, most, on(0, 0, 1, 0), on(0, 0, 1, 0)},
	} {
		e, eFalling := api.OK, api.OK
		if row.first == nil {
			e = api.ErrNone
		}
		if row.falling == nil {
			eFalling = api.ErrNone
		}
		l, got := nest.First(row.beams, row.pieces, row.kerf)
		want(t, "First of "+row.what, l, got, row.first, e)
		l, got = nest.Falling(row.beams, row.pieces, row.kerf)
		want(t, "Falling of "+row.what, l, got, row.falling, eFalling)
	}
}

// TestFirstOfAnyPieces compares placings with what the definition makes, place by place.
func TestFirstOfAnyPieces(t *testing.T) {
	s := newSource(2)
	done, none := 0, 0
	for range 2000 {
		beams, pieces, kerf := s.beams(s.Intn(4), 24), s.pieces(s.Intn(7), 7), s.Intn(5)
		for _, row := range []struct {
			name   string
			run    func([]api.Beam, []int, int) ([]api.Placing, api.Errno)
			wanted []api.Placing
		}{{"First", nest.First, placedFirst(beams, pieces, kerf)}, {"Falling", nest.Falling, placedFalling(beams, pieces, kerf)}} {
			l, e := row.run(beams, pieces, kerf)
			if row.wanted == nil && len(pieces) > 0 {
				want(t, row.name, l, e, nil, api.ErrNone)
				none++
				continue
			}
			want(t, row.name, l, e, row.wanted, api.OK)
			wantError(t, "CheckPlacing of "+row.name, nest.CheckPlacing(beams, pieces, kerf, l), api.OK)
			length, e := nest.Length(beams, pieces, kerf, l)
			want(t, "Length of "+row.name, length, e, total(beams, l), api.OK)
			waste, e := nest.Waste(beams, pieces, kerf, l)
			want(t, "Waste of "+row.name, waste, e, total(beams, l)-sum(pieces), api.OK)
			done++
		}
	}
	if done < 500 || none < 500 {
		t.Errorf("%d placings, and %d times none", done, none)
	}
}

// TestFallingOfManyPieces has many equal pieces, which keep their order.
func TestFallingOfManyPieces(t *testing.T) {
	s := newSource(14)
	for range 20 {
		beams, pieces, kerf := bars(32, 20), s.pieces(64, 4), s.Intn(3)
		l, e := nest.Falling(beams, pieces, kerf)
		want(t, "Falling of many pieces", l, e, placedFalling(beams, pieces, kerf), api.OK)
		l, e = nest.First(beams, pieces, kerf)
		want(t, "First of many pieces", l, e, placedFirst(beams, pieces, kerf), api.OK)
	}
}

// TestAnyPlacings compares errors with the definition of a valid placing, piece by piece.
func TestAnyPlacings(t *testing.T) {
	s := newSource(3)
	count := map[api.Errno]int{}
	for range 6000 {
		beams, pieces, kerf := s.beams(s.from(1, 3), 16), s.pieces(s.Intn(4), 5), s.Intn(3)
		var l []api.Placing
		wanted := api.OK
		for i, length := range pieces {
			p := api.Placing{Beam: s.Intn(len(beams)), At: s.Intn(8)}
			if s.Intn(30) == 0 {
				p = api.Placing{Beam: s.from(-1, 3), At: s.from(-1, 16)}
			}
			l = append(l, p)
			switch {
			case wanted != api.OK:
			case p.Beam < 0 || p.Beam >= len(beams):
				wanted = api.ErrUnknown
			case p.At < 0 || p.At+length > beams[p.Beam].Length:
				wanted = api.ErrRange
			case !isUsable(beams[p.Beam], p.At, p.At+length):
				wanted = api.ErrFace
			case !isValid(beams, pieces[:i+1], kerf, l):
				wanted = api.ErrClash
			}
		}
		wantError(t, "CheckPlacing", nest.CheckPlacing(beams, pieces, kerf, l), wanted)
		count[wanted]++
	}
	for _, e := range []api.Errno{api.OK, api.ErrUnknown, api.ErrRange, api.ErrFace, api.ErrClash} {
		if count[e] < 50 {
			t.Errorf("error %d came %d times alone", e, count[e])
		}
	}
}
