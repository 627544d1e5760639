package statics_test

import (
	"cmp"
	"slices"
	"strconv"
	"testing"

	"trunnel/api"
	"trunnel/statics"
)

// FromAxes of P7.8

func whole(i int) api.Rat { return api.Rat(strconv.Itoa(i)) }

func compareBars(a, b api.Bar) int {
	return cmp.Or(cmp.Compare(a.From, b.From), cmp.Compare(a.To, b.To))
}

// axes returns axes between pairs of points.
func axes(text string) [][2]api.Vec {
	var l [][2]api.Vec
	for p := range slices.Chunk(vecs(text), 2) {
		l = append(l, [2]api.Vec(p))
	}
	return l
}

func TestFromAxesOfExamples(t *testing.T) {
	for _, x := range []struct {
		what, axes, nodes string
		held              [][3]bool
		bars              []api.Bar
	}{
		{"the example", "0 0 0, 0 0 4, 0 0 2, 3 0 2", "0 0 0, 0 0 2, 0 0 4, 3 0 2", [][3]bool{held, loose, loose, loose}, bars(0, 1, 1, 2, 1, 3)},
		{"one axis", "1 0 5, 1 0 0", "1 0 0, 1 0 5", [][3]bool{held, loose}, bars(0, 1)},
		{"an axis twice, and turned round", "0 0 1, 1 0 1, 0 0 1, 1 0 1, 1 0 1, 0 0 1", "0 0 1, 1 0 1", [][3]bool{loose, loose}, bars(0, 1)},
		{"crossing axes", "0 0 1, 2 2 1, 0 2 1, 2 0 1", "0 0 1, 0 2 1, 2 0 1, 2 2 1", make([][3]bool, 4), bars(0, 3, 1, 2)},
		{"overlapping axes", "0 0 0, 2 0 0, 1 0 0, 3 0 0", "0 0 0, 1 0 0, 2 0 0, 3 0 0", [][3]bool{held, held, held, held}, bars(0, 1, 1, 2, 2, 3)},
		{"an axis behind another one", "0 0 0, 1 0 0, 2 0 0, 3 0 0", "0 0 0, 1 0 0, 2 0 0, 3 0 0", [][3]bool{held, held, held, held}, bars(0, 1, 2, 3)},
		{"a point near an axis", "0 0 0, 4 2 2, 2 1 1, 9 9 9, 1 1 1, 9 9 9", "0 0 0, 1 1 1, 2 1 1, 4 2 2, 9 9 9", [][3]bool{held, loose, loose, loose, loose}, bars(0, 2, 1, 4, 2, 3, 2, 4)},
		{"numbers, not texts, in order", "10 0 0, 9 0 0, -1 0 0, -2 0 0, 1/2 0 0, 1/3 0 0", "-2 0 0, -1 0 0, 1/3 0 0, 1/2 0 0, 9 0 0, 10 0 0", slices.Repeat([][3]bool{held}, 6), bars(0, 1, 2, 3, 4, 5)},
	} {
		s, e := statics.FromAxes(axes(x.axes))
		want(t, "FromAxes of "+x.what, s, e, api.Truss{Nodes: vecs(x.nodes), Held: x.held, Bars: x.bars}, api.OK)
	}
}

func TestErrorsOfAxes(t *testing.T) {
	large := digits(601)
	for _, x := range []struct {
		what string
		axes [][2]api.Vec
		e    api.Errno
	}{
		{"no axes", nil, api.ErrEmpty},
		{"no axes", [][2]api.Vec{}, api.ErrEmpty},
		{"65 axes, which are wrong, too", make([][2]api.Vec, 65), api.ErrMany},
		{"64 wrong axes", make([][2]api.Vec, 64), api.ErrForm},
		{"a first point", axes("0 x 0, 1 0 0"), api.ErrForm},
		{"a second point", axes("0 0 0, 1 0 2/4"), api.ErrForm},
		{"both points", [][2]api.Vec{{{"0", "0", large}, {"0", "", "0"}}}, api.ErrLarge},
		{"the second point ahead of equal ones", [][2]api.Vec{{vec("0 0 0"), {"0", "0", large}}}, api.ErrLarge},
		{"equal points", axes("0 0 0, 0 0 0"), api.ErrZero},
		{"equal texts that are no points", axes("0 0 00, 0 0 00"), api.ErrForm},
		{"a second axis with equal points", axes("0 0 0, 0 0 1, 1 0 0, 1 0 0"), api.ErrZero},
		{"a first axis with equal points", append(axes("0 0 0, 0 0 0"), [2]api.Vec{}), api.ErrZero},
		{"a first axis with a wrong point", append([][2]api.Vec{{}}, axes("0 0 0, 0 0 0")...), api.ErrForm},
		{"an error ahead of too many nodes", append(star(33), axes("0 0 0, 0 0 0")...), api.ErrZero},
	} {
		s, e := statics.FromAxes(x.axes)
		want(t, "FromAxes with "+x.what, s, e, api.Truss{}, x.e)
	}
}

// star returns axes from a point to others, with so many nodes.
func star(nodes int) [][2]api.Vec {
	var l [][2]api.Vec
	for i := range nodes - 1 {
		l = append(l, [2]api.Vec{vec("0 0 1"), {whole(i), whole(i * i), "2"}})
	}
	return l
}

// mesh returns so many axes between the points of a curve, no three of which are on a line.
func mesh(count int) [][2]api.Vec {
	var l [][2]api.Vec
	for to := range 12 {
		for from := range to {
			l = append(l, [2]api.Vec{{whole(to), whole(to * to), "1"}, {whole(from), whole(from * from), "1"}})
		}
	}
	return l[:count]
}

func TestLimitsOfAxes(t *testing.T) {
	for _, x := range []struct {
		what        string
		axes        [][2]api.Vec
		nodes, bars int
		e           api.Errno
	}{
		{"32 nodes", star(32), 32, 31, api.OK},
		{"33 nodes", star(33), 0, 0, api.ErrMany},
		{"64 axes and bars", mesh(64), 12, 64, api.OK},
		{"64 axes and 65 bars", append(mesh(63), axes("20 0 0, 22 0 0, 21 0 0, 21 1 0")[:]...)[1:], 16, 65, api.ErrMany},
		{"63 axes and 64 bars", append(mesh(63), axes("20 0 0, 22 0 0, 21 0 0, 21 1 0")[:]...)[2:], 16, 64, api.OK},
		{"numbers of 600 digits", [][2]api.Vec{{{nines(600), "0", "0"}, {"-" + nines(600), "0", "1/" + nines(600)}}}, 2, 1, api.OK},
	} {
		s, e := statics.FromAxes(x.axes)
		if wantError(t, "FromAxes of "+x.what, e, x.e); e == api.OK && (len(s.Nodes) != x.nodes || len(s.Bars) != x.bars) {
			t.Errorf("FromAxes of %s: got %d nodes and %d bars", x.what, len(s.Nodes), len(s.Bars))
		}
		if e == api.OK {
			wantError(t, "CheckTruss of "+x.what, statics.CheckTruss(s), api.OK)
		}
	}
}

// TestFromAxesAgainstItsDefinition compares FromAxes with what math/big makes of the definition.
func TestFromAxesAgainstItsDefinition(t *testing.T) {
	s := newSource(8)
	many := 0
	for range 200 {
		var l [][2]api.Vec
		for range s.from(1, 8) {
			point := func() api.Vec { return api.Vec{whole(s.Intn(5)), whole(s.Intn(2)), whole(s.Intn(2))} }
			from, to := point(), point()
			if from != to {
				l = append(l, [2]api.Vec{from, to})
			}
		}
		if len(l) == 0 {
			continue
		}
		wanted := trussOf(l)
		f, e := statics.FromAxes(l)
		want(t, "FromAxes", f, e, wanted, api.OK)
		if len(f.Bars) > len(l) {
			many++
		}
	}
	if many < 20 {
		t.Errorf("%d trusses with more bars than axes", many)
	}
}

func trussOf(l [][2]api.Vec) api.Truss {
	var t api.Truss
	for _, a := range l {
		for _, p := range a {
			if !slices.Contains(t.Nodes, p) {
				t.Nodes = append(t.Nodes, p)
			}
		}
	}
	slices.SortFunc(t.Nodes, func(p, q api.Vec) int {
		for i := range p {
			if c := rat(p[i]).Cmp(rat(q[i])); c != 0 {
				return c
			}
		}
		return 0
	})
	for to, q := range t.Nodes {
		onGround := rat(q[2]).Sign() == 0
		t.Held = append(t.Held, [3]bool{onGround, onGround, onGround})
		for from, p := range t.Nodes[:to] {
			isBar := slices.ContainsFunc(l, func(a [2]api.Vec) bool { return isOn(a, p) && isOn(a, q) })
			for i, other := range t.Nodes {
				isBar = isBar && (i == from || i == to || !isOn([2]api.Vec{p, q}, other))
			}
			if isBar {
				t.Bars = append(t.Bars, api.Bar{From: from, To: to})
			}
		}
	}
	slices.SortFunc(t.Bars, compareBars)
	return t
}

// isOn reports whether a point is on an axis: from its beginning it is a part of the way from 0 to 1.
func isOn(a [2]api.Vec, p api.Vec) bool {
	way, own := minus(read(a[1]), read(a[0])), minus(read(p), read(a[0]))
	if !isZero(cross(way, own)) {
		return false
	}
	part := dot(own, way)
	return part.Sign() >= 0 && part.Cmp(dot(way, way)) <= 0
}
