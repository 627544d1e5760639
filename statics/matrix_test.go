package statics_test

import (
	"math/big"
	"slices"
	"testing"

	"trunnel/api"
	"trunnel/statics"
)

// P7.1, and Critical of P7.8

func TestMatrixOfExamples(t *testing.T) {
	m, e := statics.Matrix(tripod())
	want(t, "Matrix", m, e, [][]api.Rat{{"0", "4"}, {"-3", "-3"}}, api.OK)
	n, e := statics.Rank(tripod())
	want(t, "Rank", n, e, 2, api.OK)
	l, e := statics.SelfStress(tripod())
	want(t, "SelfStress", l, e, nil, api.OK)
	n, e = statics.Rank(hinge())
	want(t, "Rank without a bar", n, e, 1, api.OK)
	n, e = statics.Rank(closed())
	want(t, "Rank with a bar between held nodes", n, e, 2, api.OK)
	l, e = statics.SelfStress(closed())
	want(t, "SelfStress of a bar between held nodes", l, e, [][]api.Rat{{"0", "1", "0"}}, api.OK)
	c, e := statics.Critical(closed())
	want(t, "Critical", c, e, []int{0, 2}, api.OK)
}

// TestMatrixWithoutRowsOrColumns has no free coordinates, and no bars.
func TestMatrixWithoutRowsOrColumns(t *testing.T) {
	s := tripod()
	s.Held[2] = held
	m, e := statics.Matrix(s)
	want(t, "Matrix of held nodes", m, e, nil, api.OK)
	n, e := statics.Rank(s)
	want(t, "Rank of held nodes", n, e, 0, api.OK)
	l, e := statics.SelfStress(s)
	want(t, "SelfStress of held nodes", l, e, [][]api.Rat{{"1", "0"}, {"0", "1"}}, api.OK)
	c, e := statics.Critical(s)
	want(t, "Critical of held nodes", c, e, nil, api.OK)
	s = tripod()
	s.Bars = nil
	m, e = statics.Matrix(s)
	want(t, "Matrix without bars", m, e, [][]api.Rat{{}, {}}, api.OK)
	n, e = statics.Rank(s)
	want(t, "Rank without bars", n, e, 0, api.OK)
	l, e = statics.SelfStress(s)
	want(t, "SelfStress without bars", l, e, nil, api.OK)
	c, e = statics.Critical(s)
	want(t, "Critical without bars", c, e, nil, api.OK)
}

// TestSelfStressOfALine has a line of bars between held ends: the coefficients go as one through the lengths.
func TestSelfStressOfALine(t *testing.T) {
	l, e := statics.SelfStress(row("0", "1", "3", "6"))
	want(t, "SelfStress", l, e, [][]api.Rat{{"1", "1/2", "1/3"}}, api.OK)
	s := row("0", "1", "3", "6")
	s.Bars = bars(2, 3, 0, 1, 0, 3, 1, 2, 0, 2)
	l, e = statics.SelfStress(s)
	want(t, "SelfStress in another order", l, e, [][]api.Rat{{"1", "0", "0", "0", "1"}, {"0", "1", "0", "1/2", "-1/3"}, {"0", "0", "1", "0", "0"}}, api.OK)
}

// TestMatrixAgainstItsDefinition compares Matrix, Rank, SelfStress and Critical with what math/big makes of the definitions.
func TestMatrixAgainstItsDefinition(t *testing.T) {
	s := newSource(1)
	stressed := 0
	for range 400 {
		f := s.truss(7)
		var wanted [][]api.Rat
		for _, numbers := range matrixOf(f) {
			var r []api.Rat
			for _, x := range numbers {
				r = append(r, text(x))
			}
			wanted = append(wanted, r)
		}
		m, e := statics.Matrix(f)
		want(t, "Matrix", m, e, wanted, api.OK)
		rank := rankOf(matrixOf(f))
		n, e := statics.Rank(f)
		want(t, "Rank", n, e, rank, api.OK)
		l, e := statics.SelfStress(f)
		if wantError(t, "SelfStress", e, api.OK); !areSelfStresses(f, l) || len(l) != len(f.Bars)-rank {
			t.Errorf("SelfStress of %v: got %v", f, l)
		}
		stressed += len(l)
		var critical []int
		for i := range f.Bars {
			g := f
			g.Bars = slices.Delete(slices.Clone(f.Bars), i, i+1)
			if rankOf(matrixOf(g)) < rank {
				critical = append(critical, i)
			}
		}
		c, e := statics.Critical(f)
		want(t, "Critical", c, e, critical, api.OK)
	}
	if stressed < 100 {
		t.Errorf("%d self-stresses", stressed)
	}
}

// areSelfStresses reports whether lists are a reduced basis, and in equilibrium with no loads.
func areSelfStresses(f api.Truss, lists [][]api.Rat) bool {
	var numbers [][]*big.Rat
	for _, list := range lists {
		var own []*big.Rat
		for _, x := range list {
			own = append(own, rat(x))
		}
		if len(own) != len(f.Bars) {
			return false
		}
		numbers = append(numbers, own)
		for node := range f.Nodes {
			force := forceOn(f, list, node)
			for axis, isHeld := range f.Held[node] {
				if !isHeld && force[axis].Sign() != 0 {
					return false
				}
			}
		}
	}
	return isReduced(numbers)
}

// TestLargeNumbersOfMatrices has numbers that are just too large, and others that are not.
func TestLargeNumbersOfMatrices(t *testing.T) {
	s := row("0", nines(600), "-1")
	m, e := statics.Matrix(s)
	want(t, "Matrix", m, e, nil, api.ErrLarge)
	n, e := statics.Rank(s)
	want(t, "Rank", n, e, 1, api.OK)
	l, e := statics.SelfStress(s)
	want(t, "SelfStress", l, e, nil, api.ErrLarge)
	c, e := statics.Critical(s)
	want(t, "Critical", c, e, nil, api.OK)
	s = row("1", nines(600), "0")
	m, e = statics.Matrix(s)
	less := nines(599) + "8"
	want(t, "Matrix", m, e, [][]api.Rat{{"-" + less, "-" + nines(600)}}, api.OK)
	l, e = statics.SelfStress(s)
	want(t, "SelfStress", l, e, [][]api.Rat{{"1", "-" + less + "/" + nines(600)}}, api.OK)
}
