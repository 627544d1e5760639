package statics

import (
	"iter"
	"slices"

	"trunnel/api"
	"trunnel/space"
)

// Matrix returns the equilibrium matrix of a truss.
func Matrix(t api.Truss) ([][]api.Rat, api.Errno) {
	own, e := read(t)
	if e != api.OK {
		return nil, e
	}
	return each(slices.Collect(own.rows()), writeNumbers)
}

// Rank returns the rank of the equilibrium matrix.
func Rank(t api.Truss) (int, api.Errno) {
	own, e := read(t)
	if e != api.OK {
		return 0, e
	}
	return len(own.reduceBars(own.bars).rows), api.OK
}

// SelfStress returns the reduced basis of the self-stresses of a truss.
func SelfStress(t api.Truss) ([][]api.Rat, api.Errno) {
	own, e := read(t)
	if e != api.OK {
		return nil, e
	}
	return each(own.selfStresses(), writeNumbers)
}

// Critical returns the bars without which the rank is less. These have 0 in every self-stress: no other bars replace them.
func Critical(t api.Truss) ([]int, api.Errno) {
	own, e := read(t)
	if e != api.OK {
		return nil, e
	}
	stresses := own.selfStresses()
	var critical []int
	for bar := range own.bars {
		isStressed := func(stress []space.Number) bool { return !stress[bar].IsZero() }
		if !slices.ContainsFunc(stresses, isStressed) {
			critical = append(critical, bar)
		}
	}
	return critical, api.OK
}

// columns visits the columns of the equilibrium matrix that belong to bars.
func (t truss) columns(bars []api.Bar) iter.Seq[[]space.Number] {
	return func(yield func([]space.Number) bool) {
		for _, bar := range bars {
			ends := make([]space.Vector, len(t.nodes))
			ends[bar.From] = t.along(bar)
			ends[bar.To] = t.along(bar).Negated()
			if !yield(t.list(ends)) {
				return
			}
		}
	}
}

// rows visits the rows of the equilibrium matrix, with the loads of some cases in front.
func (t truss) rows(cases ...[]space.Vector) iter.Seq[[]space.Number] {
	return func(yield func([]space.Number) bool) {
		var columns [][]space.Number
		for _, loads := range cases {
			columns = append(columns, t.list(loads))
		}
		columns = slices.AppendSeq(columns, t.columns(t.bars))
		for place := range len(t.places) {
			numbers := make([]space.Number, len(columns))
			for i, column := range columns {
				numbers[i] = column[place]
			}
			if !yield(numbers) {
				return
			}
		}
	}
}

// reduceBars returns the system of the columns of bars. The lists whose products with them are 0 are motions.
func (t truss) reduceBars(bars []api.Bar) *system { return reduce(t.columns(bars), len(t.places), 0) }

// selfStresses returns the reduced basis of the self-stresses.
func (t truss) selfStresses() [][]space.Number { return reduce(t.rows(), len(t.bars), 0).basis() }
