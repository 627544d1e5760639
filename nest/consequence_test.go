package nest_test

import (
	"math/big"
	"slices"
	"testing"

	"trunnel/api"
	"trunnel/nest"
)

// P6.5

// best returns the length of Best, and whether there is one.
func best(t *testing.T, beams []api.Beam, pieces []int, kerf int) (int, bool) {
	t.Helper()
	l, e := nest.Best(beams, pieces, kerf)
	if e == api.ErrInfeasible {
		return 0, false
	}
	length, eLength := nest.Length(beams, pieces, kerf, l)
	want(t, "Best", length, e, total(beams, l), eLength)
	return length, true
}

// TestNoPlacingIsShorterThanAValue has placings of any kind, and any prices.
func TestNoPlacingIsShorterThanAValue(t *testing.T) {
	s := newSource(10)
	done, tight := 0, 0
	for range 2000 {
		beams, pieces, kerf := s.beams(s.from(1, 6), 30), s.pieces(s.Intn(8), 9), s.Intn(4)
		for _, run := range []func([]api.Beam, []int, int) ([]api.Placing, api.Errno){nest.First, nest.Falling, nest.Best} {
			l, e := run(beams, pieces, kerf)
			if e != api.OK {
				continue
			}
			done++
			length, e := nest.Length(beams, pieces, kerf, l)
			price := big.NewRat(int64(s.Intn(40)), int64(s.from(1, 20)))
			value, eValue := nest.Value(beams, pieces, kerf, text(price))
			v, ok := new(big.Rat).SetString(string(value))
			if e != api.OK || eValue != api.OK || !ok || v.Cmp(number(length)) > 0 {
				t.Errorf("%v, %v, %d: a placing with the length %d, error %d; a price with the value %s, error %d", beams, pieces, kerf, length, e, value, eValue)
			}
			bound, e := nest.Bound(beams, pieces, kerf)
			excess, eExcess := nest.Excess(beams, pieces, kerf, l)
			want(t, "Excess", excess, eExcess, length-bound, e)
			if excess < 0 {
				t.Errorf("Excess of %v, %v, %d, %v: got %d", beams, pieces, kerf, l, excess)
			}
			if excess == 0 && length > 0 {
				tight++
			}
		}
	}
	if done < 1000 || tight < 50 {
		t.Errorf("%d placings, %d of them as short as the bound", done, tight)
	}
}

// TestBestGetsNoLonger has a further beam, a smaller kerf, and one piece less.
func TestBestGetsNoLonger(t *testing.T) {
	s := newSource(11)
	shorter := 0
	for range 1000 {
		beams, pieces, kerf := s.beams(s.from(1, 5), 25), s.pieces(s.from(1, 6), 9), s.from(1, 4)
		length, isThere := best(t, beams, pieces, kerf)
		if !isThere {
			continue
		}
		at, piece := s.Intn(len(beams)+1), s.Intn(len(pieces))
		for what, other := range map[string]arguments{
			"a further beam": {beams: slices.Insert(slices.Clone(beams), at, s.beam(25)), pieces: pieces, kerf: kerf},
			"a smaller kerf": {beams: beams, pieces: pieces, kerf: kerf - 1},
			"no kerf":        {beams: beams, pieces: pieces},
			"a piece less":   {beams: beams, pieces: slices.Delete(slices.Clone(pieces), piece, piece+1), kerf: kerf},
		} {
			otherLength, ok := best(t, other.beams, other.pieces, other.kerf)
			if !ok || otherLength > length {
				t.Errorf("Best of %v, %v, %d has the length %d, with %s %d, %v", beams, pieces, kerf, length, what, otherLength, ok)
			}
			if otherLength < length {
				shorter++
			}
		}
	}
	if shorter < 100 {
		t.Errorf("%d placings became shorter", shorter)
	}
}

// TestLongerPiecesHaveNoKerf has beams without defects, and pieces and beams that are longer by the kerf.
func TestLongerPiecesHaveNoKerf(t *testing.T) {
	s := newSource(12)
	valid, wrong := 0, 0
	for range 5000 {
		kerf := s.from(1, 4)
		beams, pieces := bars(s.from(1, 3), s.from(4, 20)), s.pieces(s.Intn(5), 5)
		longerBeams, longerPieces := slices.Clone(beams), slices.Clone(pieces)
		for i := range longerBeams {
			longerBeams[i].Length += kerf
		}
		var l []api.Placing
		for i := range longerPieces {
			longerPieces[i] += kerf
			l = append(l, api.Placing{Beam: s.Intn(len(beams)), At: s.from(0, 20)})
		}
		e := nest.CheckPlacing(beams, pieces, kerf, l)
		wantError(t, "CheckPlacing of longer pieces", nest.CheckPlacing(longerBeams, longerPieces, 0, l), e)
		if e == api.OK {
			valid++
		} else {
			wrong++
		}
	}
	if valid < 500 || wrong < 500 {
		t.Errorf("%d valid placings, and %d other ones", valid, wrong)
	}
}

// TestBoardsLieInTheCircle has boards of any kind: their corners are in the circle, and would not be if they were wider.
func TestBoardsLieInTheCircle(t *testing.T) {
	s := newSource(13)
	done := 0
	for range 5000 {
		diameter, thickness, kerf, n := s.from(1, 10000), s.from(1, 1000), s.Intn(200), s.from(1, 9)
		widths, e := nest.Boards(diameter, thickness, kerf, n)
		if e != api.OK {
			continue
		}
		done++
		height := n*thickness + (n-1)*kerf
		for i, width := range widths {
			low := 2*i*(thickness+kerf) - height
			far := max(low*low, (low+2*thickness)*(low+2*thickness))
			if width*width+far > diameter*diameter || (width+1)*(width+1)+far <= diameter*diameter {
				t.Errorf("Boards of %d, %d, %d, %d: got %v", diameter, thickness, kerf, n, widths)
			}
		}
	}
	if done < 1000 {
		t.Errorf("%d times boards", done)
	}
}
