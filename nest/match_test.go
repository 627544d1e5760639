package nest_test

import (
	"slices"
	"testing"

	"trunnel/api"
	"trunnel/nest"
)

// P6.4: Match

func TestMatch(t *testing.T) {
	for _, row := range []struct {
		what     string
		logs     []int
		sections [][2]int
		list     []int
		e        api.Errno
	}{
		{"two logs", []int{10, 5}, [][2]int{{3, 4}, {6, 8}}, []int{1, 0}, api.OK},
		{"three logs", []int{10, 5, 10}, [][2]int{{3, 4}, {6, 8}}, []int{0, 2}, api.OK},
		{"two great sections", []int{10, 5}, [][2]int{{6, 8}, {6, 8}}, nil, api.ErrInfeasible},
		{"a section that lies", []int{5}, [][2]int{{4, 3}}, []int{0}, api.OK},
		{"a section that is a little too wide", []int{10}, [][2]int{{7, 8}}, nil, api.ErrInfeasible},
		{"nothing", nil, nil, nil, api.OK},
		{"no sections", []int{10, 5}, nil, nil, api.OK},
		{"no logs", nil, [][2]int{{1, 1}}, nil, api.ErrInfeasible},
		{"more sections than logs", []int{10, 10}, [][2]int{{1, 1}, {1, 1}, {1, 1}}, nil, api.ErrInfeasible},
		{"a log that is kept for a later one", []int{10, 7, 5}, [][2]int{{1, 1}, {4, 4}, {6, 8}}, []int{2, 1, 0}, api.OK},
		{"a log that is left", []int{10, 7, 5}, [][2]int{{1, 1}, {4, 4}}, []int{0, 1}, api.OK},
		{"logs in ascending order", []int{5, 7, 10}, [][2]int{{1, 1}, {1, 1}, {1, 1}}, []int{0, 1, 2}, api.OK},
		{"the largest of all", []int{10000}, [][2]int{{6000, 8000}}, []int{0}, api.OK},
		{"the largest section", []int{10000}, [][2]int{{10000, 10000}}, nil, api.ErrInfeasible},
		{"32 logs and sections", slices.Repeat([]int{5}, 32), slices.Repeat([][2]int{{3, 4}}, 32), upTo(32), api.OK},
		{"33 logs", slices.Repeat([]int{5}, 33), [][2]int{{3, 4}}, nil, api.ErrMany},
		{"33 logs with errors", make([]int, 33), [][2]int{{3, 4}}, nil, api.ErrMany},
		{"33 sections", []int{5}, slices.Repeat([][2]int{{3, 4}}, 33), nil, api.ErrMany},
		{"33 sections with errors", []int{5}, make([][2]int, 33), nil, api.ErrMany},
		{"33 sections and a log with an error", []int{0}, make([][2]int, 33), nil, api.ErrRange},
		{"a log of the diameter 0", []int{10, 0}, [][2]int{{3, 4}}, nil, api.ErrRange},
		{"a negative log", []int{-10}, nil, nil, api.ErrRange},
		{"a log that is too large", []int{10001}, [][2]int{{3, 4}}, nil, api.ErrRange},
		{"a section without a width", []int{10}, [][2]int{{3, 4}, {0, 4}}, nil, api.ErrRange},
		{"a section without a height", []int{10}, [][2]int{{3, 0}}, nil, api.ErrRange},
		{"a negative section", []int{10}, [][2]int{{-3, -4}}, nil, api.ErrRange},
		{"a section that is too wide", []int{10}, [][2]int{{10001, 4}}, nil, api.ErrRange},
		{"a section that is too high", []int{10}, [][2]int{{3, 10001}}, nil, api.ErrRange},
		{"a section far too large", []int{10}, [][2]int{{huge, huge}}, nil, api.ErrRange},
		{"sections that do not fit, and an error", []int{10}, [][2]int{{10, 10}, {1, 1}, {0, 1}}, nil, api.ErrRange},
	} {
		list, e := nest.Match(row.logs, row.sections)
		want(t, "Match of "+row.what, list, e, row.list, row.e)
	}
}

// upTo returns the numbers from 0 to n - 1.
func upTo(n int) []int {
	numbers := make([]int, n)
	for i := range numbers {
		numbers[i] = i
	}
	return numbers
}

// matched returns what Match is by the definition, with the first sections matched already.
func matched(logs []int, sections [][2]int, list []int) ([]int, bool) {
	if len(list) == len(sections) {
		return list, true
	}
	s := sections[len(list)]
	for i, d := range logs {
		if s[0]*s[0]+s[1]*s[1] <= d*d && !slices.Contains(list, i) {
			if all, ok := matched(logs, sections, append(slices.Clone(list), i)); ok {
				return all, true
			}
		}
	}
	return nil, false
}

func TestMatchOfAnyLogs(t *testing.T) {
	s := newSource(8)
	done, none := 0, 0
	for range 3000 {
		logs, sections := s.pieces(s.Intn(7), 12), make([][2]int, s.Intn(6))
		for i := range sections {
			sections[i] = [2]int{s.from(1, 6), s.from(1, 7)}
		}
		list, e := nest.Match(logs, sections)
		wanted, ok := matched(logs, sections, nil)
		if !ok {
			want(t, "Match", list, e, nil, api.ErrInfeasible)
			none++
			continue
		}
		want(t, "Match", list, e, wanted, api.OK)
		done++
	}
	if done < 300 || none < 300 {
		t.Errorf("%d lists, and %d times none", done, none)
	}
}

// TestMatchOfManyLogs has one list alone, in which each log is the last one that fits.
func TestMatchOfManyLogs(t *testing.T) {
	var logs, wanted []int
	var sections [][2]int
	for i := range 32 {
		logs = append(logs, 5*(32-i))
		sections = append(sections, [2]int{3 * (i + 1), 4 * (i + 1)})
		wanted = append(wanted, 31-i)
	}
	list, e := nest.Match(logs, sections)
	want(t, "Match of 32 logs", list, e, wanted, api.OK)
	list, e = nest.Match(logs, sections[:31])
	want(t, "Match of 31 sections", list, e, append([]int{0}, wanted[1:31]...), api.OK)
	sections[31][0]++
	list, e = nest.Match(logs, sections)
	want(t, "Match of a section that is too wide", list, e, nil, api.ErrInfeasible)
}
