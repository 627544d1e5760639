package nest

import (
	"cmp"
	"slices"

	"trunnel/api"
)

func checkSection(s section) api.Errno { return cmp.Or(checkSize(s[0]), checkSize(s[1])) }

// Match returns a log for each section.
func Match(logs []int, sections [][2]int) ([]int, api.Errno) {
	e := cmp.Or(checkAll(logs, api.MaxStock, checkSize), checkAll(sections, api.MaxStock, checkSection))
	if e != api.OK {
		return nil, e
	}
	if !canMatch(logs, sections) {
		return nil, api.ErrInfeasible
	}
	// A log that is taken has the diameter 0.
	left := slices.Clone(logs)
	matched := make([]int, len(sections))
next:
	for i, s := range sections {
		for k, diameter := range left {
			if !fits(s, diameter) {
				continue
			}
			left[k] = 0
			if canMatch(left, sections[i+1:]) {
				matched[i] = k
				continue next
			}
			left[k] = diameter
		}
	}
	return matched, api.OK
}

// canMatch reports whether there is a log for each section: the thickest one for the largest one, and so on.
func canMatch(logs []int, sections []section) bool {
	if len(sections) > len(logs) {
		return false
	}
	thickest := slices.SortedFunc(slices.Values(logs), func(a, b int) int { return cmp.Compare(b, a) })
	largest := slices.SortedFunc(slices.Values(sections), func(s, other section) int {
		return cmp.Compare(diagonal(other), diagonal(s))
	})
	for i, s := range largest {
		if !fits(s, thickest[i]) {
			return false
		}
	}
	return true
}

// diagonal returns the square of the diagonal of a section.
func diagonal(s section) int { return s[0]*s[0] + s[1]*s[1] }
