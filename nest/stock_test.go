package nest_test

import (
	"slices"
	"testing"

	"trunnel/api"
	"trunnel/nest"
)

// P6.1

// wrongBeams returns beams with their errors.
func wrongBeams() map[api.Errno][]api.Beam {
	return map[api.Errno][]api.Beam{
		api.ErrRange: {
			bar(0), bar(-1), bar(above), bar(huge), bar(-huge - 1),
			bar(0, make([][2]int, 5)...), // the length comes ahead of the number of defects
			bar(10, [2]int{-1, 5}), bar(10, [2]int{11, 11}), bar(10, [2]int{5, 4}), bar(10, [2]int{5, 11}), bar(10, [2]int{0, -1}),
			bar(10, [2]int{5, huge}), bar(10, [2]int{-huge - 1, 5}),
			bar(10, [2]int{2, 6}, [2]int{5, 4}), // the second number comes ahead of the order
			bar(10, [2]int{2, 6}, [2]int{5, 11}),
			bar(10, [2]int{2, 6}, [2]int{-1, 7}),
			bar(10, [2]int{2, 6}, [2]int{7, 11}, [2]int{5, 9}), // the first defect decides
		},
		api.ErrMany: {bar(10, make([][2]int, 5)...), bar(10, slices.Repeat([][2]int{{5, 4}}, 5)...)},
		api.ErrOrder: {
			bar(10, [2]int{2, 6}, [2]int{5, 7}), bar(10, [2]int{2, 6}, [2]int{2, 6}), bar(10, [2]int{5, 5}, [2]int{4, 4}),
			bar(10, [2]int{2, 6}, [2]int{5, 7}, [2]int{7, 11}), bar(10, [2]int{0, 1}, [2]int{1, 2}, [2]int{2, 3}, [2]int{2, 4}),
			bar(10, [2]int{2, 8}, [2]int{5, 5}, [2]int{6, 9}),
		},
	}
}

func TestCheckBeams(t *testing.T) {
	good := []api.Beam{
		bar(1), bar(most), bar(10, [2]int{0, 10}), bar(10, make([][2]int, 4)...), bar(10, [2]int{10, 10}), bar(10, [2]int{0, 0}, [2]int{10, 10}),
		bar(10, [2]int{1, 4}, [2]int{4, 6}), bar(10, [2]int{1, 4}, [2]int{4, 4}, [2]int{4, 4}, [2]int{4, 10}), bar(most, [2]int{most, most}),
	}
	wantError(t, "CheckBeams of no stock", nest.CheckBeams(nil), api.OK)
	wantError(t, "CheckBeams of a stock", nest.CheckBeams(good), api.OK)
	wantError(t, "CheckBeams of 32 beams", nest.CheckBeams(bars(32, 5)), api.OK)
	wantError(t, "CheckBeams of 33 beams", nest.CheckBeams(bars(33, 5)), api.ErrMany)
	wantError(t, "CheckBeams of 33 beams with errors", nest.CheckBeams(bars(33, 0)), api.ErrMany)
	for e, wrong := range wrongBeams() {
		for _, b := range wrong {
			wantError(t, "CheckBeams of a wrong beam", nest.CheckBeams([]api.Beam{b}), e)
			wantError(t, "CheckBeams of a wrong beam at last", nest.CheckBeams(append(bars(31, 5), b)), e)
			for other, more := range wrongBeams() {
				wantError(t, "CheckBeams of two wrong beams", nest.CheckBeams([]api.Beam{good[0], b, more[0]}), e)
				wantError(t, "CheckBeams of two wrong beams", nest.CheckBeams([]api.Beam{more[0], b}), other)
			}
		}
	}
}

func TestCheckPieces(t *testing.T) {
	for _, row := range []struct {
		what   string
		pieces []int
		e      api.Errno
	}{
		{"nothing", nil, api.OK},
		{"one piece", []int{1}, api.OK},
		{"a long piece", []int{1, most}, api.OK},
		{"a piece of the length 0", []int{1, 0}, api.ErrRange},
		{"a negative piece", []int{-1, 1}, api.ErrRange},
		{"a piece that is too long", []int{above}, api.ErrRange},
		{"a piece that is much too long", []int{5, huge}, api.ErrRange},
		{"a piece far below 0", []int{5, -huge - 1}, api.ErrRange},
		{"64 pieces", slices.Repeat([]int{most}, 64), api.OK},
		{"64 pieces with an error", append(slices.Repeat([]int{7}, 63), 0), api.ErrRange},
		{"65 pieces", slices.Repeat([]int{7}, 65), api.ErrMany},
		{"65 pieces with an error", make([]int, 65), api.ErrMany},
	} {
		wantError(t, "CheckPieces of "+row.what, nest.CheckPieces(row.pieces), row.e)
	}
}

func TestGaps(t *testing.T) {
	for _, row := range []struct {
		b        api.Beam
		gaps     [][2]int
		capacity int // with the kerf 5
	}{
		{stock()[0], [][2]int{{0, 40}, {50, 100}}, 100},
		{stock()[1], [][2]int{{0, 60}}, 65},
		{bar(1), [][2]int{{0, 1}}, 6},
		{bar(10, [2]int{0, 2}, [2]int{5, 5}, [2]int{8, 10}), [][2]int{{2, 5}, {5, 8}}, 16},
		{bar(10, [2]int{0, 0}), [][2]int{{0, 10}}, 15},
		{bar(10, [2]int{10, 10}), [][2]int{{0, 10}}, 15},
		{bar(10, [2]int{3, 3}, [2]int{3, 3}), [][2]int{{0, 3}, {3, 10}}, 20},
		{bar(10, [2]int{1, 4}, [2]int{4, 6}), [][2]int{{0, 1}, {6, 10}}, 15},
		{bar(10, [2]int{1, 4}, [2]int{4, 4}, [2]int{5, 10}), [][2]int{{0, 1}, {4, 5}}, 12},
		{bar(10, [2]int{0, 10}), nil, 0},
		{bar(10, [2]int{0, 4}, [2]int{4, 10}, [2]int{10, 10}), nil, 0},
		{bar(10, [2]int{1, 2}, [2]int{3, 4}, [2]int{5, 6}, [2]int{7, 8}), [][2]int{{0, 1}, {2, 3}, {4, 5}, {6, 7}, {8, 10}}, 31},
		{bar(most, [2]int{1, 1}), [][2]int{{0, 1}, {1, most}}, most + 10},
	} {
		got, e := nest.Gaps(row.b)
		want(t, "Gaps", got, e, row.gaps, api.OK)
		capacity, e := nest.Capacity(row.b, 5)
		want(t, "Capacity", capacity, e, row.capacity, api.OK)
		capacity, e = nest.Capacity(row.b, 0)
		want(t, "Capacity without a kerf", capacity, e, row.capacity-5*len(row.gaps), api.OK)
	}
}

// TestGapsOfAnyBeams compares gaps with what is usable point by point.
func TestGapsOfAnyBeams(t *testing.T) {
	s := newSource(1)
	for range 500 {
		b := s.beam(16)
		var gaps [][2]int
		capacity, kerf := 0, s.Intn(4)
		for from := range b.Length {
			for to := from + 1; to <= b.Length; to++ {
				if isUsable(b, from, to) && !isUsable(b, from-1, to) && !isUsable(b, from, to+1) {
					gaps = append(gaps, [2]int{from, to})
					capacity += to - from + kerf
				}
			}
		}
		got, e := nest.Gaps(b)
		want(t, "Gaps", got, e, gaps, api.OK)
		sum, e := nest.Capacity(b, kerf)
		want(t, "Capacity", sum, e, capacity, api.OK)
	}
}

func TestLargeCapacities(t *testing.T) {
	b := bar(most, [2]int{1, 1}, [2]int{2, 2}, [2]int{3, 3}, [2]int{4, 4})
	capacity, e := nest.Capacity(b, most)
	want(t, "Capacity with the largest kerf", capacity, e, 6*most, api.OK)
	need, e := nest.Need(slices.Repeat([]int{most}, 64), most)
	want(t, "Need with the largest kerf", need, e, 128*most, api.OK)
}

func TestNeed(t *testing.T) {
	for _, row := range []struct {
		pieces     []int
		kerf, need int
	}{{parts(), 5, 115}, {parts(), 0, 100}, {nil, 5, 0}, {[]int{1}, 0, 1}, {[]int{1}, most, above}, {[]int{3, 4}, 1, 9}} {
		need, e := nest.Need(row.pieces, row.kerf)
		want(t, "Need", need, e, row.need, api.OK)
	}
}
