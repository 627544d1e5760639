package statics

import (
	"cmp"

	"trunnel/api"
	"trunnel/space"
)

// Solve returns the forces that loads determine.
func Solve(t api.Truss, loads []api.Vec) (Forces, api.Errno) {
	own, vectors, e := readLoaded(t, loads)
	if e != api.OK {
		return Forces{}, e
	}
	solved, e := own.solve(vectors)
	if e != api.OK {
		return Forces{}, e
	}
	return forces{solved[0], own.reactions(solved[0], vectors)}.write()
}

// Carries reports whether some forces are in equilibrium with loads.
func Carries(t api.Truss, loads []api.Vec) (bool, api.Errno) {
	own, vectors, e := readLoaded(t, loads)
	if e != api.OK {
		return false, e
	}
	_, e = own.solve(vectors)
	return e != api.ErrMoves, api.OK
}

// Combine returns the sums of load cases that the rows of a table describe.
func Combine(t api.Truss, cases [][]api.Vec, table [][]api.Rat) ([][]api.Vec, api.Errno) {
	errTruss := CheckTruss(t)
	loads, errCases := readCases(cases, len(t.Nodes))
	rows, errTable := readTable(table, len(cases))
	if e := cmp.Or(errTruss, errCases, errTable); e != api.OK {
		return nil, e
	}
	return each(rows, func(row []space.Number) ([]api.Vec, api.Errno) {
		return writeVectors(combined(loads, row, len(t.Nodes)))
	})
}

// combined returns the sum of cases, each multiplied by its number.
func combined(cases [][]space.Vector, numbers []space.Number, nodes int) []space.Vector {
	vectors := make([]space.Vector, nodes)
	for i, loads := range cases {
		for node, load := range loads {
			vectors[node] = sum(vectors[node], load.Scaled(numbers[i]))
		}
	}
	return vectors
}

// Worst returns the first cases with the least and the greatest coefficient of each bar.
func Worst(t api.Truss, cases [][]api.Vec) ([][2]int, api.Errno) {
	own, errTruss := read(t)
	loads, errCases := readCases(cases, len(t.Nodes))
	switch e := cmp.Or(errTruss, errCases); {
	case e != api.OK:
		return nil, e
	case len(cases) == 0:
		return nil, api.ErrEmpty
	}
	solved, e := own.solve(loads...)
	if e != api.OK {
		return nil, e
	}
	worst := make([][2]int, len(own.bars))
	for i, coefficients := range solved {
		for bar, c := range coefficients {
			if c.Compare(solved[worst[bar][0]][bar]) < 0 {
				worst[bar][0] = i
			}
			if c.Compare(solved[worst[bar][1]][bar]) > 0 {
				worst[bar][1] = i
			}
		}
	}
	return worst, api.OK
}

// readLoaded returns a truss and loads.
func readLoaded(t api.Truss, loads []api.Vec) (truss, []space.Vector, api.Errno) {
	own, errTruss := read(t)
	vectors, errLoads := readVectors(loads, len(t.Nodes))
	return own, vectors, cmp.Or(errTruss, errLoads)
}

// solve returns the coefficients of the bars for each case, or the error of the first case with one.
func (t truss) solve(cases ...[]space.Vector) ([][]space.Number, api.Errno) {
	s := reduce(t.rows(cases...), len(cases)+len(t.bars), len(cases))
	solved := make([][]space.Number, len(cases))
	for i := range cases {
		switch {
		case !s.isSolved(i):
			return nil, api.ErrMoves
		case len(s.rows) < len(t.bars):
			return nil, api.ErrFree
		}
		solved[i] = s.list(i)[len(cases):]
	}
	return solved, api.OK
}
