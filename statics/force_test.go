package statics_test

import (
	"math/big"
	"testing"

	"trunnel/api"
	"trunnel/space"
	"trunnel/statics"
)

// P7.6 and P7.7, and CheckForces of P7.3

// pressed returns the forces of example 2.
func pressed() statics.Forces {
	return statics.Forces{Bars: []api.Rat{"0", "-2"}, Nodes: vecs("0 0 0, -8 6 0, 0 0 0")}
}

func TestCheckForces(t *testing.T) {
	for _, x := range []struct {
		what   string
		load   string
		change func(f *statics.Forces)
		e      api.Errno
	}{
		{"nothing", "8 -6 0", func(*statics.Forces) {}, api.OK},
		{"the load", "8 0 0", func(*statics.Forces) {}, api.ErrProof},
		{"a load on a held coordinate", "8 -6 1", func(*statics.Forces) {}, api.ErrProof},
		{"both this and the reaction", "8 -6 1", func(f *statics.Forces) { f.Nodes[2][2] = "-1" }, api.OK},
		{"a coefficient", "8 -6 0", func(f *statics.Forces) { f.Bars[0] = "1" }, api.ErrProof},
		{"a reaction", "8 -6 0", func(f *statics.Forces) { f.Nodes[0][2] = "1/5" }, api.ErrProof},
		{"a reaction in a free coordinate", "7 -6 0", func(f *statics.Forces) { f.Nodes[2][0] = "1" }, api.ErrProof},
		{"everything", "0 0 0", func(f *statics.Forces) {
			*f = statics.Forces{Bars: []api.Rat{"0", "0"}, Nodes: at("0 0 0")}
		}, api.OK},
	} {
		f := pressed()
		x.change(&f)
		wantError(t, "CheckForces with a change of "+x.what, statics.CheckForces(tripod(), at(x.load), f), x.e)
	}
}

// TestCheckForcesWithSelfStress has forces that are not the only ones in equilibrium.
func TestCheckForcesWithSelfStress(t *testing.T) {
	for _, x := range []struct {
		coefficient api.Rat
		reactions   string
	}{{"0", "0 0 0, -8 6 0, 0 0 0"}, {"1", "-4 0 0, -4 6 0, 0 0 0"}, {"-5/3", "20/3 0 0, -44/3 6 0, 0 0 0"}} {
		f := statics.Forces{Bars: []api.Rat{"0", x.coefficient, "-2"}, Nodes: vecs(x.reactions)}
		wantError(t, "CheckForces", statics.CheckForces(closed(), at("8 -6 0"), f), api.OK)
		f.Bars[1] = "7"
		wantError(t, "CheckForces", statics.CheckForces(closed(), at("8 -6 0"), f), api.ErrProof)
	}
}

// TestCheckForcesAgainstItsDefinition changes one number of forces, or none.
func TestCheckForcesAgainstItsDefinition(t *testing.T) {
	s := newSource(5)
	count := map[api.Errno]int{}
	for range 300 {
		f := s.truss(5)
		loads := s.vecs(len(f.Nodes))
		p := s.forces(f)
		reactions := readAll(p.Nodes)
		loads = texts(balanced(f, p.Bars, loads))
		for node, load := range readAll(loads) {
			reactions[node] = times(rat("-1"), plus(load, forceOn(f, p.Bars, node)))
		}
		p.Nodes = texts(reactions)
		switch s.Intn(4) {
		case 0:
			p.Nodes[s.Intn(len(p.Nodes))][s.Intn(3)] = s.number()
		case 1:
			loads[s.Intn(len(loads))][s.Intn(3)] = s.number()
		case 2:
			if len(p.Bars) > 0 {
				p.Bars[s.Intn(len(p.Bars))] = s.number()
			}
		}
		wanted := api.ErrProof
		if areForces(f, loads, p.Bars, p.Nodes) {
			wanted = api.OK
		}
		count[wanted]++
		wantError(t, "CheckForces", statics.CheckForces(f, loads, p), wanted)
	}
	if count[api.OK] < 50 || count[api.ErrProof] < 50 {
		t.Errorf("forces: %v", count)
	}
}

func TestSquares(t *testing.T) {
	q, e := statics.Squares(tripod(), pressed())
	want(t, "Squares", q, e, []api.Rat{"0", "100"}, api.OK)
	q, e = statics.Squares(tripod(), statics.Forces{Bars: []api.Rat{"1/3", "-1/5"}, Nodes: at("1 2 3")})
	want(t, "Squares", q, e, []api.Rat{"1", "1"}, api.OK)
}

func TestOverloaded(t *testing.T) {
	for _, x := range []struct {
		bars       []api.Rat
		capacities [][2]api.Rat
		overloaded []int
	}{
		{[]api.Rat{"0", "-2"}, [][2]api.Rat{{"0", "0"}, {"99", "0"}}, []int{1}},
		{[]api.Rat{"0", "-2"}, [][2]api.Rat{{"0", "0"}, {"100", "0"}}, nil},
		{[]api.Rat{"0", "-2"}, [][2]api.Rat{{"0", "0"}, {"1999/20", "100"}}, []int{1}},
		{[]api.Rat{"0", "2"}, [][2]api.Rat{{"0", "0"}, {"0", "100"}}, nil},
		{[]api.Rat{"0", "2"}, [][2]api.Rat{{"0", "0"}, {"100", "99"}}, []int{1}},
		{[]api.Rat{"1/3", "-1/5"}, [][2]api.Rat{{"1", "0"}, {"0", "1"}}, []int{0, 1}},
		{[]api.Rat{"1/3", "-1/5"}, [][2]api.Rat{{"0", "1"}, {"1", "0"}}, nil},
		{[]api.Rat{"0", "0"}, [][2]api.Rat{{"0", "0"}, {"0", "0"}}, nil},
	} {
		l, e := statics.Overloaded(tripod(), statics.Forces{Bars: x.bars, Nodes: at("0 0 0")}, x.capacities)
		want(t, "Overloaded", l, e, x.overloaded, api.OK)
	}
}

func TestSection(t *testing.T) {
	for _, x := range []struct {
		half          api.Half
		force, moment string
	}{
		{api.Half{N: [3]int{0, 1, 0}, D: "1"}, "8 -6 0", "0 0 -24"},
		{api.Half{N: [3]int{0, -1, 0}, D: "-1"}, "-8 6 0", "0 0 24"},
		{api.Half{N: [3]int{0, 1, 0}, D: "0"}, "8 -6 0", "0 0 -24"},    // the nodes in the plane are inside
		{api.Half{N: [3]int{0, -1, 0}, D: "-3"}, "-8 6 0", "0 0 24"},   // and the one on the other side is so, too
		{api.Half{N: [3]int{0, 1, 0}, D: "3"}, "0 0 0", "0 0 0"},       // all are inside
		{api.Half{N: [3]int{0, 1, 0}, D: "-1"}, "0 0 0", "0 0 0"},      // none are
		{api.Half{N: [3]int{1, 0, 0}, D: "2"}, "-8 6 0", "0 0 24"},     // the bar 0-2 is inside
		{api.Half{N: [3]int{1, 1, 0}, D: "7/2"}, "-8 6 0", "0 0 24"},   // 1 is outside
		{api.Half{N: [3]int{-1, -1, 0}, D: "-4"}, "8 -6 0", "0 0 -24"}, // only 1 is inside
	} {
		force, moment, e := statics.Section(tripod(), pressed(), x.half)
		want(t, "Section", []api.Vec{force, moment}, e, []api.Vec{vec(x.force), vec(x.moment)}, api.OK)
	}
}

// TestForcesOfBarsAgainstTheirDefinition compares Squares, Overloaded and Section with what math/big makes of the definitions.
func TestForcesOfBarsAgainstTheirDefinition(t *testing.T) {
	s := newSource(6)
	cut, over := 0, 0
	for range 300 {
		f := s.truss(6)
		p := s.forces(f)
		var squares []api.Rat
		capacities := make([][2]api.Rat, len(f.Bars))
		var overloaded []int
		for i, bar := range f.Bars {
			way, _ := toOther(f, bar, bar.From)
			square := new(big.Rat).Mul(dot(way, way), new(big.Rat).Mul(rat(p.Bars[i]), rat(p.Bars[i])))
			squares = append(squares, text(square))
			for j := range capacities[i] {
				capacity := new(big.Rat).Add(square, big.NewRat(int64(s.from(-2, 2)), 3))
				capacities[i][j] = text(capacity.Abs(capacity))
			}
			least, most := rat(capacities[i][0]), rat(capacities[i][1])
			if c := rat(p.Bars[i]).Sign(); c < 0 && square.Cmp(least) > 0 || c > 0 && square.Cmp(most) > 0 {
				overloaded = append(overloaded, i)
			}
		}
		over += len(overloaded)
		q, e := statics.Squares(f, p)
		want(t, "Squares", q, e, squares, api.OK)
		l, e := statics.Overloaded(f, p, capacities)
		want(t, "Overloaded", l, e, overloaded, api.OK)
		h, e := space.MakeHalf(s.vec(), s.number())
		if e != api.OK {
			continue
		}
		force, moment, e := statics.Section(f, p, h)
		wanted := sectionOf(f, p, h)
		want(t, "Section", []api.Vec{force, moment}, e, wanted, api.OK)
		if force != vec("0 0 0") {
			cut++
		}
	}
	if cut < 50 || over < 50 {
		t.Errorf("%d sections, and %d bars", cut, over)
	}
}

func sectionOf(f api.Truss, p statics.Forces, h api.Half) []api.Vec {
	isInside := func(node int) bool {
		side, _ := space.Side(h, f.Nodes[node])
		return side <= 0
	}
	force, moment := read(vec("0 0 0")), read(vec("0 0 0"))
	for node := range f.Nodes {
		for i, bar := range f.Bars {
			way, is := toOther(f, bar, node)
			if !is || !isInside(node) || isInside(bar.From+bar.To-node) {
				continue
			}
			own := times(rat(p.Bars[i]), way)
			force, moment = plus(force, own), plus(moment, cross(read(f.Nodes[node]), own))
		}
	}
	return texts([]vector{force, moment})
}

// TestLargeNumbersOfForces has numbers that are just too large, and others that are not.
func TestLargeNumbersOfForces(t *testing.T) {
	s := api.Truss{Nodes: vecs("0 2 0, 1 2 0, 0 3 0"), Held: [][3]bool{held, onLine, loose}, Bars: bars(0, 1, 0, 2)}
	p := statics.Forces{Bars: []api.Rat{nines(300), "1"}, Nodes: at("0 0 0")}
	q, e := statics.Squares(s, p)
	want(t, "Squares", q, e, []api.Rat{nines(299) + "8" + ten(299)[1:] + "1", "1"}, api.OK)
	p.Bars[0] = ten(300)
	q, e = statics.Squares(s, p)
	want(t, "Squares", q, e, nil, api.ErrLarge)
	l, e := statics.Overloaded(s, p, [][2]api.Rat{{"0", nines(600)}, {"0", "1"}})
	want(t, "Overloaded", l, e, []int{0}, api.OK)
	h := api.Half{N: [3]int{0, 1, 0}, D: "2"}
	p.Bars[1] = nines(600)
	force, moment, e := statics.Section(s, p, h)
	want(t, "Section", []api.Vec{force, moment}, e, []api.Vec{{"0", nines(600), "0"}, vec("0 0 0")}, api.OK)
	h = api.Half{N: [3]int{1, 1, 0}, D: "2"}
	p.Bars = []api.Rat{"5", nines(600)}
	force, moment, e = statics.Section(s, p, h)
	want(t, "Section", []api.Vec{force, moment}, e, []api.Vec{{"5", nines(600), "0"}, vec("0 0 -10")}, api.OK)
	s.Nodes[0] = vec("11 2 0")
	h = api.Half{N: [3]int{0, 1, 0}, D: "2"}
	force, moment, e = statics.Section(s, p, h)
	want(t, "Section with a large force", []api.Vec{force, moment}, e, []api.Vec{{}, {}}, api.ErrLarge)
	s.Nodes[0], s.Nodes[2] = vec("11 2 0"), vec("11 3 0")
	force, moment, e = statics.Section(s, p, h)
	want(t, "Section with a large moment alone", []api.Vec{force, moment}, e, []api.Vec{{}, {}}, api.ErrLarge)
	wantError(t, "CheckForces", statics.CheckForces(s, vecs("0 0 0, 0 0 0, 0 0 0"), p), api.ErrProof)
}
