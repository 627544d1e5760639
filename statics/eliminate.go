package statics

import (
	"iter"
	"slices"

	"trunnel/space"
)

// row is a row of a system, with its number in what was given and its pivot: the place of the last number that is not 0.
type row struct {
	numbers []space.Number
	number  int
	pivot   int
}

// system is a list of rows that are reduced: each row with a pivot has 1 there, and all other ones have 0 there.
// As pivots are as far behind as possible, a column has none exactly if it depends on those behind it.
type system struct {
	given [][]space.Number
	width int
	front int // how many columns in front have no pivots
	next  int // the number of the first row that was not looked at yet
	rows  []row
	rest  []row // those without a pivot
}

// reduce returns the system of rows of a width. The columns in front have no pivots.
func reduce(rows iter.Seq[[]space.Number], width, front int) *system {
	s := &system{given: slices.Collect(rows), width: width, front: front}
	eliminate(s.find, s.divide, s.clear)
	return s
}

// eliminate carries out steps for each pivot that is found.
func eliminate[P any](find func() (P, bool), steps ...func(P)) {
	for p, found := find(); found; p, found = find() {
		for _, step := range steps {
			step(p)
		}
	}
}

// find looks for the next row that has a pivot when the rows before are taken from it.
func (s *system) find() (row, bool) {
	var r row
	found := false
search:
	for s.next < len(s.given) {
		r = row{numbers: s.given[s.next], number: s.next}
		s.next++
		for _, other := range s.rows {
			r.take(other)
		}
		for place, x := range slices.Backward(r.numbers[s.front:]) {
			if !x.IsZero() {
				r.pivot, found = s.front+place, true
				break search
			}
		}
		s.rest = append(s.rest, r)
	}
	return r, found
}

// take takes another row from a row so often that 0 is left at the pivot of the other one.
func (r row) take(other row) {
	times := r.numbers[other.pivot].Negated()
	if times.IsZero() {
		return
	}
	for place, x := range other.numbers[:other.pivot+1] {
		if !x.IsZero() {
			r.numbers[place] = r.numbers[place].Plus(times.Times(x))
		}
	}
}

// divide brings the number of a row at its pivot to 1.
func (s *system) divide(r row) {
	by := r.numbers[r.pivot]
	for place, x := range r.numbers[:r.pivot+1] {
		r.numbers[place] = x.Over(by)
	}
}

// clear takes a row from all those before it, and puts it behind them.
func (s *system) clear(r row) {
	for _, other := range s.rows {
		other.take(r)
	}
	s.rows = append(s.rows, r)
}

// list returns the numbers that have 1 at the place of a column without a pivot, 0 at those of the other ones, and
// together with each row with a pivot the product 0.
func (s *system) list(column int) []space.Number {
	numbers := make([]space.Number, s.width)
	numbers[column] = space.Integer(1)
	for _, r := range s.rows {
		numbers[r.pivot] = r.numbers[column].Negated()
	}
	return numbers
}

// isSolved reports whether the list of a column in front has the product 0 with the rows without a pivot, too.
func (s *system) isSolved(column int) bool {
	return !slices.ContainsFunc(s.rest, func(r row) bool { return !r.numbers[column].IsZero() })
}

// basis returns the reduced basis of the lists whose products with all rows are 0. No columns are in front.
func (s *system) basis() [][]space.Number {
	isPivot := make([]bool, s.width)
	for _, r := range s.rows {
		isPivot[r.pivot] = true
	}
	var lists [][]space.Number
	for column, is := range isPivot {
		if !is {
			lists = append(lists, s.list(column))
		}
	}
	return lists
}
