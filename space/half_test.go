package space

import (
	"math"
	"strings"
	"testing"

	"trunnel/api"
)

// P1.3

// top is the largest coordinate of a normal.
const top = api.MaxNumber

func TestCheckHalf(t *testing.T) {
	large := api.Rat(nines(601))
	for _, row := range []struct {
		n [3]int
		d api.Rat
		e api.Errno
	}{
		{[3]int{3, 0, -2}, "30", api.OK}, {[3]int{0, 0, 1}, "0", api.OK}, {[3]int{0, -1, 0}, "-1/2", api.OK}, {[3]int{6, 10, 15}, "1", api.OK},
		{[3]int{top, 1, 0}, "1", api.OK}, {[3]int{0, -top, 1}, "1", api.OK}, {[3]int{1, 0, 0}, api.Rat(nines(600)), api.OK},
		{[3]int{0, 0, 0}, "1", api.ErrZero}, {[3]int{0, 0, 0}, "", api.ErrZero},
		{[3]int{top + 1, 1, 0}, "1", api.ErrRange}, {[3]int{1, -top - 1, 0}, "1", api.ErrRange}, {[3]int{1, 0, top + 1}, "x", api.ErrRange}, {[3]int{2, 2, top + 1}, "1", api.ErrRange},
		{[3]int{math.MinInt, 0, 0}, "1", api.ErrRange}, {[3]int{0, math.MaxInt, 1}, "1", api.ErrRange}, {[3]int{1, 1, math.MinInt}, "", api.ErrRange},
		{[3]int{2, 0, -4}, "1", api.ErrForm}, {[3]int{2, 0, 0}, "1", api.ErrForm}, {[3]int{0, 0, -2}, "1", api.ErrForm}, {[3]int{6, 10, 14}, "1", api.ErrForm}, {[3]int{-3, 9, 27}, large, api.ErrForm}, {[3]int{top, 0, -top}, "1", api.ErrForm},
		{[3]int{1, 0, 0}, "1/1", api.ErrForm}, {[3]int{1, 0, 0}, "", api.ErrForm}, {[3]int{1, 0, 0}, large, api.ErrLarge},
	} {
		h := api.Half{N: row.n, D: row.d}
		wantError(t, "CheckHalf", CheckHalf(h), row.e)
		g, e := Opposite(h)
		if row.e != api.OK {
			want(t, "Opposite", g, e, api.Half{}, row.e)
		}
	}
}

func TestMakeHalf(t *testing.T) {
	most := api.Rat(nines(600))
	for _, row := range []struct {
		n api.Vec
		d api.Rat
		h api.Half
		e api.Errno
	}{
		{api.Vec{"1/2", "0", "-1/3"}, "5", api.Half{N: [3]int{3, 0, -2}, D: "30"}, api.OK},
		{api.Vec{"-4", "6", "0"}, "3", api.Half{N: [3]int{-2, 3, 0}, D: "3/2"}, api.OK},
		{api.Vec{"0", "0", "-7/5"}, "0", api.Half{N: [3]int{0, 0, -1}, D: "0"}, api.OK},
		{api.Vec{"0", most, "0"}, most, api.Half{N: [3]int{0, 1, 0}, D: "1"}, api.OK},
		{api.Vec{"1/" + most, "0", "0"}, "1/" + most, api.Half{N: [3]int{1, 0, 0}, D: "1"}, api.OK},
		{api.Vec{"999999999", "1", "0"}, "1", api.Half{N: [3]int{top, 1, 0}, D: "1"}, api.OK},
		{api.Vec{"-999999999", "2", "0"}, "1", api.Half{N: [3]int{-top, 2, 0}, D: "1"}, api.OK},
		{api.Vec{"2000000000", "2", "0"}, "1", api.Half{}, api.ErrLarge},
		{api.Vec{"1000000000", "1", "0"}, "1", api.Half{}, api.ErrLarge},
		{api.Vec{"1", "0", "-1000000000"}, "1", api.Half{}, api.ErrLarge},
		{api.Vec{"1/1000000000", "1", "0"}, "1", api.Half{}, api.ErrLarge},
		{api.Vec{"18446744073709551617", "1", "0"}, "1", api.Half{}, api.ErrLarge},
		{api.Vec{"1/2", "0", "0"}, most, api.Half{}, api.ErrLarge},
		{api.Vec{"0", "0", "0"}, "1", api.Half{}, api.ErrZero},
		{api.Vec{"0", "0", "0"}, "x", api.Half{}, api.ErrForm},
	} {
		h, e := MakeHalf(row.n, row.d)
		want(t, "MakeHalf", h, e, row.h, row.e)
	}
}

func TestMakeHalfAndOpposite(t *testing.T) {
	s := newSource(7)
	for i := range 1500 {
		n, d := s.nonzero(1+i%5), s.rat(1+i%50/49*600)
		h, e := MakeHalf(n, d)
		wantHalf(t, "MakeHalf", h, e, bigVecOf(n), bigOf(d))
		h = s.half(1 + i%5)
		g, e := Opposite(h)
		wantHalf(t, "Opposite", g, e, normalOf(h).times(frac(-1, 1)), sub(frac(0, 1), bigOf(h.D)))
	}
	g, e := Opposite(api.Half{N: [3]int{3, 0, -2}, D: api.Rat(nines(600))})
	want(t, "Opposite of a great number", g, e, api.Half{N: [3]int{-3, 0, 2}, D: api.Rat("-" + nines(600))}, api.OK)
	g, e = Opposite(api.Half{N: [3]int{0, 1, 0}, D: "0"})
	want(t, "Opposite through the origin", g, e, api.Half{N: [3]int{0, -1, 0}, D: "0"}, api.OK)
}

func TestHalfExamples(t *testing.T) {
	h := api.Half{N: [3]int{3, 0, -2}, D: "30"}
	n, e := Side(h, api.Vec{"10", "7", "0"})
	want(t, "Side of a point of the plane", n, e, 0, api.OK)
	n, e = Side(h, api.Vec{"10", "7", "1"})
	want(t, "Side of a point inside", n, e, -1, api.OK)
	n, e = Side(h, api.Vec{"10", "7", "-1"})
	want(t, "Side of a point outside", n, e, 1, api.OK)
	plane := api.Half{N: [3]int{1, 1, 1}, D: "10"}
	p, e := Crossing(api.Half{N: [3]int{1, 0, 0}, D: "2"}, api.Half{N: [3]int{0, 1, 0}, D: "3"}, plane)
	want(t, "Crossing", p, e, api.Vec{"2", "3", "5"}, api.OK)
	origin := api.Vec{"0", "0", "0"}
	p, e = Meet(plane, origin, api.Vec{"1", "1", "0"})
	want(t, "Meet", p, e, api.Vec{"5", "5", "0"}, api.OK)
	p, e = Meet(plane, origin, api.Vec{"1", "-1", "0"})
	want(t, "Meet beside the plane", p, e, api.Vec{}, api.ErrNone)
	h, e = Through(api.Vec{"1", "0", "0"}, api.Vec{"0", "1", "0"}, api.Vec{"0", "0", "1"})
	want(t, "Through", h, e, api.Half{N: [3]int{1, 1, 1}, D: "1"}, api.OK)
	p, e = Project(h, origin)
	want(t, "Project", p, e, api.Vec{"1/3", "1/3", "1/3"}, api.OK)
	d, e := Distance(h, origin)
	want(t, "Distance", d, e, "1/3", api.OK)
	p, e = Mirror(h, origin)
	want(t, "Mirror", p, e, api.Vec{"2/3", "2/3", "2/3"}, api.OK)
}

func TestSide(t *testing.T) {
	s := newSource(8)
	for i := range 1000 {
		h, p := s.half(1+i%5), s.vec(1+i%5+i%50/49*590)
		n, e := Side(h, p)
		want(t, "Side", n, e, normalOf(h).dot(bigVecOf(p)).Cmp(bigOf(h.D)), api.OK)
		// A point of the plane is on it, however many digits it has on the way.
		if foot, e := Project(h, p); e == api.OK {
			n, e = Side(h, foot)
			want(t, "Side of a foot", n, e, 0, api.OK)
		}
	}
}

func TestThrough(t *testing.T) {
	s := newSource(9)
	for i := range 1500 {
		a, b, c := s.vec(1+i%3), s.vec(1+i%3), s.vec(1+i%3)
		x, y, z := bigVecOf(a), bigVecOf(b), bigVecOf(c)
		n := y.minus(x).cross(z.minus(x))
		h, e := Through(a, b, c)
		if n.isZero() {
			want(t, "Through a line", h, e, api.Half{}, api.ErrNone)
		} else {
			wantHalf(t, "Through", h, e, n, n.dot(x))
		}
		line, _ := x.plus(y.minus(x).times(bigOf(c[0]))).vec()
		h, e = Through(a, b, line)
		want(t, "Through a line", h, e, api.Half{}, api.ErrNone)
		h, e = Through(a, c, a)
		want(t, "Through equal points", h, e, api.Half{}, api.ErrNone)
	}
	h, e := Through(api.Vec{"0", "0", "2"}, api.Vec{"1", "0", "2"}, api.Vec{"0", "1", "2"})
	want(t, "Through three points above", h, e, api.Half{N: [3]int{0, 0, 1}, D: "2"}, api.OK)
	h, e = Through(api.Vec{"0", "0", "2"}, api.Vec{"0", "1", "2"}, api.Vec{"1", "0", "2"})
	want(t, "Through three points below", h, e, api.Half{N: [3]int{0, 0, -1}, D: "-2"}, api.OK)
	most := api.Rat(nines(600))
	h, e = Through(api.Vec{most, "0", "0"}, api.Vec{most, most, "0"}, api.Vec{most, "0", most})
	want(t, "Through distant points", h, e, api.Half{N: [3]int{1, 0, 0}, D: most}, api.OK)
	h, e = Through(api.Vec{"0", "0", "0"}, api.Vec{"1", "0", most}, api.Vec{"0", "1", "0"})
	want(t, "Through with a great normal", h, e, api.Half{}, api.ErrLarge)
}

func TestCrossing(t *testing.T) {
	s := newSource(10)
	for i := range 1500 {
		a, b, c := s.half(1+i%5), s.half(1+i%5), s.half(1+i%5+i%60/59*590)
		x, y, z := normalOf(a), normalOf(b), normalOf(c)
		p, e := Crossing(a, b, c)
		volume := x.dot(y.cross(z))
		if volume.Sign() == 0 {
			want(t, "Crossing without a point", p, e, api.Vec{}, api.ErrNone)
			continue
		}
		// By Cramer's rule, with the columns of the three normals.
		d := bigVec{bigOf(a.D), bigOf(b.D), bigOf(c.D)}
		columns := [3]bigVec{{x[0], y[0], z[0]}, {x[1], y[1], z[1]}, {x[2], y[2], z[2]}}
		wanted := bigVec{
			quo(d.dot(columns[1].cross(columns[2])), volume),
			quo(columns[0].dot(d.cross(columns[2])), volume),
			quo(columns[0].dot(columns[1].cross(d)), volume),
		}
		wantVec(t, "Crossing", p, e, wanted)
	}
	x, most := api.Half{N: [3]int{1, 0, 0}, D: "2"}, api.Rat(nines(600))
	for _, row := range [][2]api.Half{
		{x, {N: [3]int{0, 1, 0}, D: "3"}},                             // the same plane twice
		{{N: [3]int{-1, 0, 0}, D: "2"}, {N: [3]int{0, 1, 0}, D: "3"}}, // parallel planes
		{{N: [3]int{0, 1, 0}, D: "3"}, {N: [3]int{1, 1, 0}, D: "5"}},  // a common line
		{{N: [3]int{0, 1, 0}, D: "3"}, {N: [3]int{1, 1, 0}, D: "6"}},  // three parallel lines
	} {
		p, e := Crossing(x, row[0], row[1])
		want(t, "Crossing without just one point", p, e, api.Vec{}, api.ErrNone)
	}
	p, e := Crossing(x, api.Half{N: [3]int{0, 1, 0}, D: most}, api.Half{N: [3]int{1, 0, 1}, D: "-" + most})
	want(t, "Crossing far away", p, e, api.Vec{}, api.ErrLarge)
	p, e = Crossing(x, api.Half{N: [3]int{1, 1, 0}, D: most}, api.Half{N: [3]int{1, 1, 1}, D: most})
	want(t, "Crossing at the limit", p, e, api.Vec{"2", api.Rat(nines(599) + "7"), "0"}, api.OK)
}

func TestMeet(t *testing.T) {
	s := newSource(11)
	for i := range 1500 {
		h, p, d := s.half(1+i%5), s.vec(1+i%5+i%60/59*590), s.vec(1+i%3)
		n, x, way := normalOf(h), bigVecOf(p), bigVecOf(d)
		q, e := Meet(h, p, d)
		if n.dot(way).Sign() == 0 {
			want(t, "Meet without just one point", q, e, api.Vec{}, api.ErrNone)
			continue
		}
		wantVec(t, "Meet", q, e, x.plus(way.times(quo(sub(bigOf(h.D), n.dot(x)), n.dot(way)))))
	}
	level, most := api.Half{N: [3]int{0, 0, 1}, D: "2"}, api.Rat(nines(600))
	for _, row := range []struct{ p, d api.Vec }{
		{api.Vec{"0", "0", "2"}, api.Vec{"1", "1", "0"}}, {api.Vec{"0", "0", "3"}, api.Vec{"1", "1", "0"}},
		{api.Vec{"0", "0", "2"}, api.Vec{"0", "0", "0"}}, {api.Vec{"0", "0", "3"}, api.Vec{"0", "0", "0"}},
	} {
		q, e := Meet(level, row.p, row.d)
		want(t, "Meet without just one point", q, e, api.Vec{}, api.ErrNone)
	}
	q, e := Meet(level, api.Vec{"1", "1", most}, api.Vec{"0", "0", "-1/" + most})
	want(t, "Meet", q, e, api.Vec{"1", "1", "2"}, api.OK)
	q, e = Meet(level, api.Vec{"1", "1", "0"}, api.Vec{most, "0", "1"})
	want(t, "Meet far away", q, e, api.Vec{}, api.ErrLarge)
}

func TestFeet(t *testing.T) {
	s := newSource(12)
	for i := range 1500 {
		h, p := s.half(1+i%5), s.vec(1+i%5+i%60/59*590)
		n, x := normalOf(h), bigVecOf(p)
		excess := sub(n.dot(x), bigOf(h.D))
		step := quo(excess, n.dot(n))
		q, e := Project(h, p)
		wantVec(t, "Project", q, e, x.minus(n.times(step)))
		q, e = Mirror(h, p)
		wantVec(t, "Mirror", q, e, x.minus(n.times(add(step, step))))
		d, e := Distance(h, p)
		wantRat(t, "Distance", d, e, mul(excess, step))
	}
	most := api.Rat(nines(600))
	level, high := api.Half{N: [3]int{0, 0, 1}, D: "-" + most}, api.Vec{"5", "6", most}
	q, e := Project(level, high)
	want(t, "Project from far away", q, e, api.Vec{"5", "6", "-" + most}, api.OK)
	q, e = Mirror(level, high)
	want(t, "Mirror far away", q, e, api.Vec{}, api.ErrLarge)
	d, e := Distance(level, high)
	want(t, "Distance from far away", d, e, "", api.ErrLarge)
	q, e = Project(api.Half{N: [3]int{1, 1, 1}, D: "0"}, api.Vec{most, "0", "0"})
	third := api.Rat("-" + strings.Repeat("3", 600))
	want(t, "Project at the limit", q, e, api.Vec{api.Rat(strings.Repeat("6", 600)), third, third}, api.OK)
}
