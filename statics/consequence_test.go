package statics_test

import (
	"math/big"
	"testing"

	"trunnel/api"
	"trunnel/space"
	"trunnel/statics"
)

// P7.9

// equilibrium returns a truss, with loads and forces that are in equilibrium with them.
func (s source) equilibrium() (api.Truss, []api.Vec, statics.Forces) {
	f := s.truss(6)
	p := statics.Forces{Bars: s.numbers(len(f.Bars))}
	loads := texts(balanced(f, p.Bars, s.vecs(len(f.Nodes))))
	for node, load := range readAll(loads) {
		reaction := times(rat("-1"), plus(load, forceOn(f, p.Bars, node)))
		p.Nodes = append(p.Nodes, texts([]vector{reaction})...)
	}
	return f, loads, p
}

// TestForcesInEquilibriumDoNotWork has forces in equilibrium, and all motions of the truss.
func TestForcesInEquilibriumDoNotWork(t *testing.T) {
	s := newSource(11)
	motions := 0
	for range 300 {
		f, loads, p := s.equilibrium()
		wantError(t, "CheckForces", statics.CheckForces(f, loads, p), api.OK)
		l := sure[[][]api.Vec](t, "Motions")(statics.Motions(f))
		for _, motion := range l {
			work := sure[api.Rat](t, "Work")(statics.Work(f, loads, motion))
			reactions := workOf(p.Nodes, motion)
			bars := new(big.Rat)
			for node := range f.Nodes {
				bars.Add(bars, dot(forceOn(f, p.Bars, node), read(motion[node])))
			}
			sum := new(big.Rat).Add(rat(work), reactions)
			if sum.Add(sum, bars).Sign() != 0 || work != "0" {
				t.Errorf("the work of %v is %s, of %v %s, of the bars %s", loads, work, p.Nodes, reactions, bars)
			}
			motions++
		}
		is, e := statics.Carries(f, loads)
		want(t, "Carries", is, e, true, api.OK)
	}
	if motions < 100 {
		t.Errorf("%d motions", motions)
	}
}

// TestLoadsAreCarriedOrWork has loads of any kind: either Carries, or Refuse has a motion.
func TestLoadsAreCarriedOrWork(t *testing.T) {
	s := newSource(12)
	for range 300 {
		f := s.truss(6)
		loads := s.loads(f)
		is := sure[bool](t, "Carries")(statics.Carries(f, loads))
		motion, e := statics.Refuse(f, loads)
		if is {
			want(t, "Refuse", motion, e, nil, api.ErrNone)
			continue
		}
		wantError(t, "Refuse", e, api.OK)
		wantError(t, "CheckRefuse", statics.CheckRefuse(f, loads, motion), api.OK)
	}
}

// TestRanksAddUp has the numbers of bars and of free coordinates.
func TestRanksAddUp(t *testing.T) {
	s := newSource(13)
	for range 300 {
		f := s.truss(7)
		rank := sure[int](t, "Rank")(statics.Rank(f))
		stresses := sure[[][]api.Rat](t, "SelfStress")(statics.SelfStress(f))
		motions := sure[[][]api.Vec](t, "Motions")(statics.Motions(f))
		free, _ := freeOf(f, readAll(f.Nodes))
		want(t, "the number of bars", rank+len(stresses), api.OK, len(f.Bars), api.OK)
		want(t, "the number of free coordinates", rank+len(motions), api.OK, len(free), api.OK)
	}
}

// TestSumsOfLoads has sums and multiples of loads, and of their forces.
func TestSumsOfLoads(t *testing.T) {
	s := newSource(14)
	done := 0
	for range 600 {
		f, a, _ := s.equilibrium()
		p, e := statics.Solve(f, a)
		if e != api.OK {
			continue
		}
		b := texts(balanced(f, s.numbers(len(f.Bars)), s.vecs(len(f.Nodes))))
		q := sure[statics.Forces](t, "Solve")(statics.Solve(f, b))
		c, d := s.number(), s.number()
		combined := sure[[][]api.Vec](t, "Combine")(statics.Combine(f, [][]api.Vec{a, b}, [][]api.Rat{{c, d}}))
		wanted := statics.Forces{Nodes: texts(sumOf(c, readAll(p.Nodes), d, readAll(q.Nodes)))}
		for i := range f.Bars {
			x, y := new(big.Rat).Mul(rat(c), rat(p.Bars[i])), new(big.Rat).Mul(rat(d), rat(q.Bars[i]))
			wanted.Bars = append(wanted.Bars, text(x.Add(x, y)))
		}
		both, e := statics.Solve(f, combined[0])
		want(t, "Solve of a sum", both, e, wanted, api.OK)
		done++
	}
	if done < 100 {
		t.Errorf("%d sums", done)
	}
}

func sumOf(c api.Rat, a []vector, d api.Rat, b []vector) []vector {
	var sums []vector
	for i := range a {
		sums = append(sums, plus(times(rat(c), a[i]), times(rat(d), b[i])))
	}
	return sums
}

// TestSectionsAreInBalance has the loads and reactions inside a plane, and their moments.
func TestSectionsAreInBalance(t *testing.T) {
	s := newSource(15)
	done := 0
	for range 400 {
		f, loads, p := s.equilibrium()
		h, e := space.MakeHalf(s.vec(), s.number())
		if e != api.OK {
			continue
		}
		force, moment, e := statics.Section(f, p, h)
		wantError(t, "Section", e, api.OK)
		allForce, allMoment := read(force), read(moment)
		for node, place := range f.Nodes {
			if side, _ := space.Side(h, place); side <= 0 {
				own := plus(read(loads[node]), read(p.Nodes[node]))
				allForce, allMoment = plus(allForce, own), plus(allMoment, cross(read(place), own))
			}
		}
		if !isZero(allForce) || !isZero(allMoment) {
			t.Errorf("the section of %v with %v and %v by %v is off by %v and %v", f, loads, p, h, allForce, allMoment)
		}
		if force != vec("0 0 0") {
			done++
		}
	}
	if done < 50 {
		t.Errorf("%d sections", done)
	}
}

// TestCriticalBarsAreNotStressed has the coefficients of all bars in all self-stresses.
func TestCriticalBarsAreNotStressed(t *testing.T) {
	s := newSource(16)
	bars := 0
	for range 300 {
		f := s.truss(7)
		stresses := sure[[][]api.Rat](t, "SelfStress")(statics.SelfStress(f))
		for _, bar := range sure[[]int](t, "Critical")(statics.Critical(f)) {
			for _, stress := range stresses {
				want(t, "a coefficient", stress[bar], api.OK, "0", api.OK)
				bars++
			}
		}
	}
	if bars < 100 {
		t.Errorf("%d coefficients", bars)
	}
}

// TestBraceTakesEachMotion has as many bars as there are motions, and none with them.
func TestBraceTakesEachMotion(t *testing.T) {
	s := newSource(17)
	braced := 0
	for range 300 {
		f := s.truss(7)
		motions := sure[[][]api.Vec](t, "Motions")(statics.Motions(f))
		l, e := statics.Brace(f)
		if e != api.OK {
			want(t, "Brace", l, e, nil, api.ErrMoves)
			continue
		}
		want(t, "the number of bars", len(l), e, len(motions), api.OK)
		f.Bars = append(f.Bars, l...)
		motions, e = statics.Motions(f)
		want(t, "Motions of what is braced", motions, e, nil, api.OK)
		braced += len(l)
	}
	if braced < 50 {
		t.Errorf("%d bars", braced)
	}
}
