package nest_test

import (
	"testing"

	"trunnel/api"
	"trunnel/nest"
)

// P6.4, but for Match

func TestFits(t *testing.T) {
	for _, row := range []struct {
		width, height, diameter int
		fits                    bool
		e                       api.Errno
	}{
		{30, 40, 50, true, api.OK},
		{40, 30, 50, true, api.OK},
		{31, 40, 50, false, api.OK},
		{30, 41, 50, false, api.OK},
		{30, 40, 49, false, api.OK},
		{1, 1, 1, false, api.OK},
		{1, 1, 2, true, api.OK},
		{6000, 8000, 10000, true, api.OK},
		{6001, 8000, 10000, false, api.OK},
		{10000, 1, 10000, false, api.OK},
		{10000, 10000, 10000, false, api.OK},
		{10000, 10000, 1, false, api.OK},
		{0, 40, 50, false, api.ErrRange},
		{-30, 40, 50, false, api.ErrRange},
		{10001, 40, 50, false, api.ErrRange},
		{30, 0, 50, false, api.ErrRange},
		{30, -40, 50, false, api.ErrRange},
		{30, 10001, 50, false, api.ErrRange},
		{30, 40, 0, false, api.ErrRange},
		{30, 40, -50, false, api.ErrRange},
		{30, 40, 10001, false, api.ErrRange},
		{huge, huge, huge, false, api.ErrRange},
		{1 << 32, 1 << 32, 50, false, api.ErrRange},
	} {
		fits, e := nest.Fits(row.width, row.height, row.diameter)
		want(t, "Fits", fits, e, row.fits, row.e)
	}
}

func TestHighest(t *testing.T) {
	for _, row := range []struct {
		diameter, width, height int
		e                       api.Errno
	}{
		{50, 14, 48, api.OK},
		{50, 15, 47, api.OK},
		{50, 48, 14, api.OK},
		{50, 49, 9, api.OK},
		{50, 50, 0, api.ErrNone},
		{50, 51, 0, api.ErrNone},
		{50, 10000, 0, api.ErrNone},
		{1, 1, 0, api.ErrNone},
		{2, 1, 1, api.OK},
		{10000, 1, 9999, api.OK},
		{10000, 6000, 8000, api.OK},
		{10000, 9999, 141, api.OK},
		{10000, 10000, 0, api.ErrNone},
		{0, 14, 0, api.ErrRange},
		{-50, 14, 0, api.ErrRange},
		{10001, 14, 0, api.ErrRange},
		{50, 0, 0, api.ErrRange},
		{50, -14, 0, api.ErrRange},
		{50, 10001, 0, api.ErrRange},
		{huge, huge, 0, api.ErrRange},
	} {
		height, e := nest.Highest(row.diameter, row.width)
		want(t, "Highest", height, e, row.height, row.e)
	}
}

func TestStrongest(t *testing.T) {
	for _, row := range []struct {
		diameter int
		section  [2]int
		e        api.Errno
	}{
		{5, [2]int{3, 4}, api.OK},
		{1, [2]int{}, api.ErrNone},
		{2, [2]int{1, 1}, api.OK},
		{3, [2]int{2, 2}, api.OK},
		{10, [2]int{6, 8}, api.OK},
		{0, [2]int{}, api.ErrRange},
		{-5, [2]int{}, api.ErrRange},
		{10001, [2]int{}, api.ErrRange},
		{huge, [2]int{}, api.ErrRange},
	} {
		width, height, e := nest.Strongest(row.diameter)
		want(t, "Strongest", [2]int{width, height}, e, row.section, row.e)
	}
}

// TestSectionsOfAllLogs compares sections with what counting through all of them makes.
func TestSectionsOfAllLogs(t *testing.T) {
	for diameter := 1; diameter <= 120; diameter++ {
		var best [2]int
		product, bestError := 0, api.ErrNone
		for width := 1; width <= diameter+1; width++ {
			highest, e := 0, api.ErrNone
			for height := 1; height <= diameter+1; height++ {
				isIn := width*width+height*height <= diameter*diameter
				fits, err := nest.Fits(width, height, diameter)
				want(t, "Fits", fits, err, isIn, api.OK)
				if !isIn {
					continue
				}
				highest, e = height, api.OK
				if width*height*height > product {
					best, product, bestError = [2]int{width, height}, width*height*height, api.OK
				}
			}
			height, err := nest.Highest(diameter, width)
			want(t, "Highest", height, err, highest, e)
		}
		width, height, e := nest.Strongest(diameter)
		want(t, "Strongest", [2]int{width, height}, e, best, bestError)
	}
}

// TestStrongestOfLargeLogs goes down with the height as the width goes up.
func TestStrongestOfLargeLogs(t *testing.T) {
	for _, diameter := range []int{1000, 4096, 9999, 10000} {
		var best [2]int
		product, height := 0, diameter
		for width := 1; width < diameter; width++ {
			for width*width+height*height > diameter*diameter {
				height--
			}
			if width*height*height > product {
				best, product = [2]int{width, height}, width*height*height
			}
		}
		width, height, e := nest.Strongest(diameter)
		want(t, "Strongest of a large log", [2]int{width, height}, e, best, api.OK)
	}
}

func TestBoards(t *testing.T) {
	for _, row := range []struct {
		diameter, thickness, kerf, n int
		widths                       []int
		e                            api.Errno
	}{
		{20, 6, 0, 1, []int{19}, api.OK},
		{20, 6, 0, 2, []int{16, 16}, api.OK},
		{20, 6, 0, 3, []int{8, 19, 8}, api.OK},
		{20, 6, 0, 4, nil, api.ErrNone},
		{20, 6, 1, 3, nil, api.ErrNone},
		{20, 6, 1, 2, []int{15, 15}, api.OK},
		{10, 2, 2, 2, []int{8, 8}, api.OK},
		{10, 6, 0, 1, []int{8}, api.OK},
		{10, 9, 0, 1, []int{4}, api.OK},
		{10, 10, 0, 1, nil, api.ErrNone}, // the width is 0
		{10, 11, 0, 1, nil, api.ErrNone},
		{10, 4, 1, 2, []int{4, 4}, api.OK},
		{10, 4, 2, 2, nil, api.ErrNone}, // the widths are 0
		{10, 3, 0, 3, []int{4, 9, 4}, api.OK},
		{7, 1, 0, 4, []int{5, 6, 6, 5}, api.OK},
		{2, 1, 0, 1, []int{1}, api.OK},
		{1, 1, 0, 1, nil, api.ErrNone},
		{10000, 10000, 0, 1, nil, api.ErrNone},
		{10000, 10000, 10000, 64, nil, api.ErrNone},
		{10000, 1, 10000, 1, []int{9999}, api.OK},
		{10000, 1, 10000, 2, nil, api.ErrNone},
		{10000, 1, 9997, 2, []int{141, 141}, api.OK},
		{10000, 1, 9998, 2, nil, api.ErrNone},
		{0, 6, 0, 1, nil, api.ErrRange},
		{-20, 6, 0, 1, nil, api.ErrRange},
		{10001, 6, 0, 1, nil, api.ErrRange},
		{20, 0, 0, 1, nil, api.ErrRange},
		{20, -6, 0, 1, nil, api.ErrRange},
		{20, 10001, 0, 1, nil, api.ErrRange},
		{20, 6, -1, 1, nil, api.ErrRange},
		{20, 6, 10001, 1, nil, api.ErrRange},
		{20, 6, 0, 0, nil, api.ErrRange},
		{20, 6, 0, -1, nil, api.ErrRange},
		{20, 6, 0, 65, nil, api.ErrRange},
		{20, 6, 0, huge, nil, api.ErrRange},
		{1, 1, 0, 65, nil, api.ErrRange},
	} {
		widths, e := nest.Boards(row.diameter, row.thickness, row.kerf, row.n)
		want(t, "Boards", widths, e, row.widths, row.e)
	}
	many, e := nest.Boards(65, 1, 0, 64)
	want(t, "the number of 64 boards", len(many), e, 64, api.OK)
	_, e = nest.Boards(64, 1, 0, 64)
	wantError(t, "64 boards of a log that is as high", e, api.ErrNone)
}

func TestBestBoards(t *testing.T) {
	for _, row := range []struct {
		diameter, thickness, kerf, n int
		e                            api.Errno
	}{
		{20, 6, 0, 3, api.OK},
		{6, 6, 0, 0, api.ErrNone},
		{6, 7, 0, 0, api.ErrNone},
		{7, 6, 0, 1, api.OK},
		{7, 6, 10000, 1, api.OK},
		{10, 2, 2, 2, api.OK},
		{10, 4, 0, 2, api.OK},
		{9, 4, 0, 1, api.OK},  // 8, as two with 4 each
		{11, 2, 2, 2, api.OK}, // 9 each, as three with 4, 10 and 4
		{15, 2, 1, 4, api.OK}, // 48, as five
		{1, 1, 0, 0, api.ErrNone},
		{100, 1, 0, 64, api.OK},
		{10000, 1, 0, 64, api.OK},
		{10000, 1, 10000, 1, api.OK},
		{10000, 10000, 0, 0, api.ErrNone},
		{0, 6, 0, 0, api.ErrRange},
		{-20, 6, 0, 0, api.ErrRange},
		{10001, 6, 0, 0, api.ErrRange},
		{20, 0, 0, 0, api.ErrRange},
		{20, -6, 0, 0, api.ErrRange},
		{20, 10001, 0, 0, api.ErrRange},
		{20, 6, -1, 0, api.ErrRange},
		{20, 6, 10001, 0, api.ErrRange},
		{huge, huge, huge, 0, api.ErrRange},
		{6, 6, -1, 0, api.ErrRange},
	} {
		n, e := nest.BestBoards(row.diameter, row.thickness, row.kerf)
		want(t, "BestBoards", n, e, row.n, row.e)
	}
}

// widthOf returns the greatest width of a section between two doubled heights with its corners in the circle.
func widthOf(diameter, low, high int) int {
	for width := diameter; width > 0; width-- {
		if width*width+low*low <= diameter*diameter && width*width+high*high <= diameter*diameter {
			return width
		}
	}
	return 0
}

// sawn returns what Boards is by the definition.
func sawn(diameter, thickness, kerf, n int) []int {
	var widths []int
	height := n*thickness + (n-1)*kerf
	for i := range n {
		low := i * (thickness + kerf)
		width := widthOf(diameter, 2*low-height, 2*(low+thickness)-height)
		if width == 0 {
			return nil
		}
		widths = append(widths, width)
	}
	return widths
}

func TestBoardsOfAllLogs(t *testing.T) {
	for diameter := 1; diameter <= 40; diameter++ {
		for thickness := 1; thickness <= 8; thickness++ {
			for kerf := range 6 {
				best, greatest := 0, 0
				for n := 1; n <= 64; n++ {
					widths, e := nest.Boards(diameter, thickness, kerf, n)
					wanted := sawn(diameter, thickness, kerf, n)
					if wanted == nil {
						want(t, "Boards", widths, e, nil, api.ErrNone)
						continue
					}
					want(t, "Boards", widths, e, wanted, api.OK)
					if sum(wanted) > greatest {
						best, greatest = n, sum(wanted)
					}
				}
				n, e := nest.BestBoards(diameter, thickness, kerf)
				if best == 0 {
					want(t, "BestBoards", n, e, 0, api.ErrNone)
				} else {
					want(t, "BestBoards", n, e, best, api.OK)
				}
			}
		}
	}
}
