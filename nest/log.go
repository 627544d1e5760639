package nest

import (
	"cmp"
	"iter"
	"sort"

	"trunnel/api"
)

// maxSize is how wide, high and thick things that are sawn from a log may be, and the log itself.
const maxSize = 10000

func checkSize(size int) api.Errno { return checkRange(size, 1, maxSize) }

// root returns the greatest integer whose square is at most n, which is that of maxSize or less; of a negative n it is -1.
func root(n int) int {
	return sort.Search(maxSize+1, func(r int) bool { return r*r > n }) - 1
}

// Fits reports whether a section fits into a log.
func Fits(width, height, diameter int) (bool, api.Errno) {
	if e := cmp.Or(checkSize(width), checkSize(height), checkSize(diameter)); e != api.OK {
		return false, e
	}
	return fits(section{width, height}, diameter), api.OK
}

// section is the width and the height of a section.
type section = [2]int

func fits(s section, diameter int) bool { return s[0]*s[0]+s[1]*s[1] <= diameter*diameter }

// Highest returns the greatest height of a section in a log.
func Highest(diameter, width int) (int, api.Errno) {
	if e := cmp.Or(checkSize(diameter), checkSize(width)); e != api.OK {
		return 0, e
	}
	height := highest(diameter, width)
	if height < 1 {
		return 0, api.ErrNone
	}
	return height, api.OK
}

// highest returns the greatest height of a section of a width in a log; below 1 there is none.
func highest(diameter, width int) int { return root(diameter*diameter - width*width) }

// Strongest returns the strongest section in a log.
func Strongest(diameter int) (int, int, api.Errno) {
	if e := checkSize(diameter); e != api.OK {
		return 0, 0, e
	}
	best, isThere := greatest(sections(diameter), func(s, other section) int {
		return cmp.Compare(strength(s), strength(other))
	})
	if !isThere {
		return 0, 0, api.ErrNone
	}
	return best[0], best[1], api.OK
}

// sections visits the highest section of each width in a log, in ascending order of widths.
func sections(diameter int) iter.Seq[section] {
	return func(yield func(section) bool) {
		for width := 1; ; width++ {
			height := highest(diameter, width)
			if height < 1 || !yield(section{width, height}) {
				return
			}
		}
	}
}

func strength(s section) int { return s[0] * s[1] * s[1] }

// Boards returns the widths of boards that are sawn from a log.
func Boards(diameter, thickness, kerf, n int) ([]int, api.Errno) {
	e := cmp.Or(checkSize(diameter), checkSize(thickness), checkRange(kerf, 0, maxSize), checkRange(n, 1, api.MaxPieces))
	if e != api.OK {
		return nil, e
	}
	return saw(diameter, thickness, kerf, n)
}

// saw returns the widths of boards, the lowest one first, or ErrNone.
func saw(diameter, thickness, kerf, n int) ([]int, api.Errno) {
	widths := make([]int, n)
	// Heights are doubled, so that the lower side of the lowest board is at an integer.
	low := -(n*thickness + (n-1)*kerf)
	for i := range widths {
		high := low + 2*thickness
		widths[i] = highest(diameter, max(-low, high))
		if widths[i] < 1 {
			return nil, api.ErrNone
		}
		low = high + 2*kerf
	}
	return widths, api.OK
}

// BestBoards returns the best number of boards.
func BestBoards(diameter, thickness, kerf int) (int, api.Errno) {
	e := cmp.Or(checkSize(diameter), checkSize(thickness), checkRange(kerf, 0, maxSize))
	if e != api.OK {
		return 0, e
	}
	best, isThere := greatest(stacks(diameter, thickness, kerf), func(s, other stack) int {
		return cmp.Compare(s.width, other.width)
	})
	if !isThere {
		return 0, api.ErrNone
	}
	return best.boards, api.OK
}

// stack is a number of boards, and how wide they are together.
type stack struct{ boards, width int }

// stacks visits the stacks that can be sawn from a log, in ascending order of their numbers of boards.
func stacks(diameter, thickness, kerf int) iter.Seq[stack] {
	return func(yield func(stack) bool) {
		for n := 1; n <= api.MaxPieces; n++ {
			widths, e := saw(diameter, thickness, kerf, n)
			// A board more lies only higher than this.
			if e != api.OK || !yield(stack{n, sum(widths)}) {
				return
			}
		}
	}
}
