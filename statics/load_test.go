package statics_test

import (
	"math/big"
	"slices"
	"testing"

	"trunnel/api"
	"trunnel/statics"
)

// P7.3 and P7.5

func TestSolveOfExamples(t *testing.T) {
	f, e := statics.Solve(tripod(), at("8 -6 0"))
	want(t, "Solve", f, e, statics.Forces{Bars: []api.Rat{"0", "-2"}, Nodes: vecs("0 0 0, -8 6 0, 0 0 0")}, api.OK)
	f, e = statics.Solve(hinge(), at("0 -6 0"))
	want(t, "Solve without a bar", f, e, statics.Forces{Bars: []api.Rat{"-2"}, Nodes: vecs("0 6 0, 0 0 0, 0 0 0")}, api.OK)
	f, e = statics.Solve(hinge(), at("8 -6 0"))
	want(t, "Solve of a load that is refused", f, e, statics.Forces{}, api.ErrMoves)
	for _, load := range []string{"8 -6 0", "0 0 0", "0 0 1"} {
		f, e = statics.Solve(closed(), at(load))
		want(t, "Solve with a self-stress", f, e, statics.Forces{}, api.ErrFree)
	}
	f, e = statics.Solve(tripod(), vecs("1 2 3, 4 5 6, 0 0 7"))
	want(t, "Solve of loads on held coordinates", f, e, statics.Forces{Bars: []api.Rat{"0", "0"}, Nodes: vecs("-1 -2 -3, -4 -5 -6, 0 0 -7")}, api.OK)
}

// TestSolveMovesAheadOfFree has a truss with both a motion and a self-stress.
func TestSolveMovesAheadOfFree(t *testing.T) {
	s := closed()
	s.Bars = bars(0, 1, 0, 2)
	for _, x := range []struct {
		load    string
		carries bool
		e       api.Errno
	}{{"8 -6 0", false, api.ErrMoves}, {"0 -6 0", true, api.ErrFree}, {"0 0 0", true, api.ErrFree}} {
		f, e := statics.Solve(s, at(x.load))
		want(t, "Solve", f, e, statics.Forces{}, x.e)
		is, e := statics.Carries(s, at(x.load))
		want(t, "Carries", is, e, x.carries, api.OK)
		w, e := statics.Worst(s, [][]api.Vec{at(x.load)})
		want(t, "Worst", w, e, nil, x.e)
	}
}

func TestCarries(t *testing.T) {
	for _, x := range []struct {
		s       api.Truss
		load    string
		carries bool
	}{
		{tripod(), "8 -6 0", true}, {closed(), "8 -6 0", true}, {hinge(), "8 -6 0", false}, {hinge(), "0 -6 0", true},
		{hinge(), "0 0 9", true}, {hinge(), "1/1000 0 0", false}, {hinge(), "0 0 0", true},
	} {
		is, e := statics.Carries(x.s, at(x.load))
		want(t, "Carries", is, e, x.carries, api.OK)
	}
}

// TestSolveWithoutBars has nodes alone: only reactions carry them.
func TestSolveWithoutBars(t *testing.T) {
	s := tripod()
	s.Bars = nil
	f, e := statics.Solve(s, vecs("1 0 0, 0 2 0, 0 0 3"))
	want(t, "Solve", f, e, statics.Forces{Nodes: vecs("-1 0 0, 0 -2 0, 0 0 -3")}, api.OK)
	f, e = statics.Solve(s, vecs("1 0 0, 0 2 0, 0 1 3"))
	want(t, "Solve of a load on a free coordinate", f, e, statics.Forces{}, api.ErrMoves)
	w, e := statics.Worst(s, [][]api.Vec{at("0 0 1"), at("0 0 2")})
	want(t, "Worst", w, e, nil, api.OK)
}

func TestCombine(t *testing.T) {
	cases := [][]api.Vec{at("8 -6 0"), vecs("1 0 0, 0 0 0, 0 1 1")}
	for _, x := range []struct {
		cases [][]api.Vec
		table [][]api.Rat
		loads [][]api.Vec
	}{
		{cases, [][]api.Rat{{"1/2", "3"}}, [][]api.Vec{vecs("3 0 0, 0 0 0, 4 0 3")}},
		{cases, [][]api.Rat{{"1", "0"}, {"0", "-1"}, {"0", "0"}}, [][]api.Vec{at("8 -6 0"), vecs("-1 0 0, 0 0 0, 0 -1 -1"), at("0 0 0")}},
		{cases, nil, nil},
		{nil, [][]api.Rat{{}, nil}, [][]api.Vec{at("0 0 0"), at("0 0 0")}},
	} {
		l, e := statics.Combine(tripod(), x.cases, x.table)
		want(t, "Combine", l, e, x.loads, api.OK)
	}
}

func TestWorst(t *testing.T) {
	w, e := statics.Worst(tripod(), [][]api.Vec{at("8 -6 0"), at("0 -6 0"), at("8 -6 5")})
	want(t, "Worst", w, e, [][2]int{{1, 0}, {0, 1}}, api.OK)
	w, e = statics.Worst(tripod(), [][]api.Vec{at("8 -6 0")})
	want(t, "Worst of one case", w, e, [][2]int{{0, 0}, {0, 0}}, api.OK)
	w, e = statics.Worst(tripod(), [][]api.Vec{at("0 0 0"), at("0 1 0"), at("0 -1 0"), at("0 1 0"), at("0 -1 0")})
	want(t, "Worst of equal cases", w, e, [][2]int{{2, 1}, {0, 0}}, api.OK)
	w, e = statics.Worst(tripod(), nil)
	want(t, "Worst of no cases", w, e, nil, api.ErrEmpty)
	w, e = statics.Worst(closed(), [][]api.Vec{at("0 0 0")})
	want(t, "Worst with a self-stress", w, e, nil, api.ErrFree)
	w, e = statics.Worst(hinge(), [][]api.Vec{at("0 1 0"), at("1 0 0")})
	want(t, "Worst with a case that is refused", w, e, nil, api.ErrMoves)
	s := closed()
	s.Bars = bars(0, 1, 0, 2)
	w, e = statics.Worst(s, [][]api.Vec{at("0 1 0"), at("1 0 0")})
	want(t, "Worst with a first case that is free", w, e, nil, api.ErrFree)
	w, e = statics.Worst(s, [][]api.Vec{at("1 0 0"), at("0 1 0")})
	want(t, "Worst with a first case that is refused", w, e, nil, api.ErrMoves)
	w, e = statics.Worst(hinge(), [][]api.Vec{at("1 0 0"), at("-1 0 0")})
	want(t, "Worst with cases that only both together are carried", w, e, nil, api.ErrMoves)
}

// TestForcesAgainstTheirDefinition compares Solve, CheckForces, Carries and Worst with what math/big makes of the definitions.
func TestForcesAgainstTheirDefinition(t *testing.T) {
	s := newSource(3)
	count := map[api.Errno]int{}
	for range 600 {
		f := s.truss(6)
		cases := [][]api.Vec{s.loads(f), s.loads(f), s.loads(f)}
		var solved [][]api.Rat
		wanted := api.OK
		for _, loads := range cases {
			p, e := statics.Solve(f, loads)
			wantError(t, "Solve", e, errorOf(f, loads))
			count[e]++
			is, eCarries := statics.Carries(f, loads)
			want(t, "Carries", is, eCarries, e != api.ErrMoves, api.OK)
			if wanted == api.OK {
				wanted = e
			}
			if e != api.OK {
				want(t, "Solve", p, e, statics.Forces{}, e)
				continue
			}
			solved = append(solved, p.Bars)
			if !areForces(f, loads, p.Bars, p.Nodes) {
				t.Errorf("Solve of %v with %v: got %v", f, loads, p)
			}
			wantError(t, "CheckForces", statics.CheckForces(f, loads, p), api.OK)
		}
		worst, e := statics.Worst(f, cases)
		if wanted != api.OK {
			want(t, "Worst", worst, e, nil, wanted)
			continue
		}
		want(t, "Worst", worst, e, worstOf(solved), api.OK)
	}
	for _, e := range []api.Errno{api.OK, api.ErrMoves, api.ErrFree} {
		if count[e] < 100 {
			t.Errorf("Solve: %d times error %d", count[e], e)
		}
	}
}

// errorOf returns ErrMoves if loads raise the rank as a further column, and ErrFree if the rank is not the number of bars.
func errorOf(f api.Truss, loads []api.Vec) api.Errno {
	m := matrixOf(f)
	numbers, _ := freeOf(f, readAll(loads))
	for i, x := range numbers {
		m[i] = append(m[i], x)
	}
	rank := rankOf(matrixOf(f))
	switch {
	case rankOf(m) > rank:
		return api.ErrMoves
	case rank < len(f.Bars):
		return api.ErrFree
	}
	return api.OK
}

// worstOf returns for each bar the first cases with the least and the greatest coefficient.
func worstOf(cases [][]api.Rat) [][2]int {
	var worst [][2]int
	for bar := range cases[0] {
		var own []*big.Rat
		for _, coefficients := range cases {
			own = append(own, rat(coefficients[bar]))
		}
		least := slices.Index(own, slices.MinFunc(own, (*big.Rat).Cmp))
		most := slices.Index(own, slices.MaxFunc(own, (*big.Rat).Cmp))
		worst = append(worst, [2]int{least, most})
	}
	return worst
}

// TestCombineAgainstItsDefinition compares Combine with what math/big makes of the definition.
func TestCombineAgainstItsDefinition(t *testing.T) {
	s := newSource(4)
	for range 200 {
		f := s.truss(5)
		cases, table := make([][]api.Vec, s.Intn(5)), make([][]api.Rat, s.Intn(5))
		for i := range cases {
			cases[i] = s.vecs(len(f.Nodes))
		}
		var wanted [][]api.Vec
		for i := range table {
			table[i] = s.numbers(len(cases))
			sums := make([]vector, len(f.Nodes))
			for node := range sums {
				sums[node] = read(vec("0 0 0"))
				for j, loads := range cases {
					sums[node] = plus(sums[node], times(rat(table[i][j]), read(loads[node])))
				}
			}
			wanted = append(wanted, texts(sums))
		}
		l, e := statics.Combine(f, cases, table)
		want(t, "Combine", l, e, wanted, api.OK)
	}
}

// TestLargeNumbersOfLoads has numbers that are just too large, and others that are not.
func TestLargeNumbersOfLoads(t *testing.T) {
	tiny := "1/" + nines(600)
	s := api.Truss{Nodes: vecs("0 0 0, 2 0 0"), Held: [][3]bool{held, onLine}, Bars: bars(0, 1)}
	loads := []api.Vec{vec("0 0 0"), {tiny, "0", "0"}}
	f, e := statics.Solve(s, loads)
	want(t, "Solve with a large coefficient", f, e, statics.Forces{}, api.ErrLarge)
	is, e := statics.Carries(s, loads)
	want(t, "Carries with a large coefficient", is, e, true, api.OK)
	w, e := statics.Worst(s, [][]api.Vec{loads, loads})
	want(t, "Worst with a large coefficient", w, e, [][2]int{{0, 0}}, api.OK)
	s.Nodes[1][0] = "1"
	f, e = statics.Solve(s, loads)
	want(t, "Solve", f, e, statics.Forces{Bars: []api.Rat{tiny}, Nodes: []api.Vec{{"-" + tiny, "0", "0"}, vec("0 0 0")}}, api.OK)
	loads = []api.Vec{{nines(600), "0", "0"}, vec("1 0 0")}
	f, e = statics.Solve(s, loads)
	want(t, "Solve with a large reaction", f, e, statics.Forces{}, api.ErrLarge)
	loads[1] = vec("0 0 0")
	f, e = statics.Solve(s, loads)
	want(t, "Solve", f, e, statics.Forces{Bars: []api.Rat{"0"}, Nodes: []api.Vec{{"-" + nines(600), "0", "0"}, vec("0 0 0")}}, api.OK)
	cases := [][]api.Vec{loads, vecs("0 0 0, 1 0 0"), vecs("1 0 0, 0 0 0")}
	l, e := statics.Combine(s, cases, [][]api.Rat{{"1", "0", "0"}, {"1", "0", "1"}})
	want(t, "Combine", l, e, nil, api.ErrLarge)
	l, e = statics.Combine(s, cases, [][]api.Rat{{"1", "9", "0"}, {"2", "0", "-" + nines(600)}})
	want(t, "Combine", l, e, [][]api.Vec{{{nines(600), "0", "0"}, vec("9 0 0")}, {{nines(600), "0", "0"}, vec("0 0 0")}}, api.OK)
}
