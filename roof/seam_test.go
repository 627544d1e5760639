package roof_test

import (
	"math/big"
	"testing"

	"trunnel/api"
	"trunnel/roof"
)

// P4.5: Line, Backing and Cheek.

// line is the two results of Line.
type line struct {
	way   api.Vec
	slope api.Rat
}

func lineOf(w api.Wing, i, j int) (line, api.Errno) {
	way, slope, e := roof.Line(w, i, j)
	return line{way, slope}, e
}

func TestLine(t *testing.T) {
	for _, row := range []struct {
		what string
		w    api.Wing
		i, j int
		way  api.Vec
		s    api.Rat
		e    api.Errno
	}{
		{"0 and 1", house(), 0, 1, vec("-1", "1", "1"), "1/2", api.OK}, {"1 and 0", house(), 1, 0, vec("-1", "1", "1"), "1/2", api.OK}, {"2 and 3", house(), 2, 3, vec("1", "-1", "1"), "1/2", api.OK}, {"3 and 0", house(), 3, 0, vec("1", "1", "1"), "1/2", api.OK},
		{"0 and 2", house(), 0, 2, vec("2", "0", "0"), "0", api.OK}, {"2 and 0", house(), 2, 0, vec("2", "0", "0"), "0", api.OK}, {"1 and 3", house(), 1, 3, vec("0", "2", "0"), "0", api.OK}, {"3 and 1", house(), 3, 1, vec("0", "2", "0"), "0", api.OK},
		// The normals are -1 0 2 and 0 3 4, or 1 0 2: they are not divided by anything behind the product.
		{"unequal slopes", changed(changes(slope(3, "1/2"), slope(2, "3/4"))), 3, 2, vec("6", "-4", "3"), "9/52", api.OK}, {"a ridge of unequal slopes", changed(changes(slope(3, "1/2"), slope(1, "3/2"))), 1, 3, vec("0", "8", "0"), "0", api.OK},
		{"the same side", house(), 1, 1, api.Vec{}, "", api.ErrNone}, {"a gable as i", gabled(), 1, 0, api.Vec{}, "", api.ErrUnknown}, {"a gable as j", gabled(), 0, 3, api.Vec{}, "", api.ErrUnknown}, {"the same gable", gabled(), 3, 3, api.Vec{}, "", api.ErrUnknown},
		{"a side that does not exist", house(), 0, 4, api.Vec{}, "", api.ErrUnknown}, {"a side below 0", house(), -1, 0, api.Vec{}, "", api.ErrUnknown},
		{"the greatest normals", changed(changes(slope(0, "999999999"), slope(1, "1/999999999"))), 0, 1, vec("-999999998000000001", "1", "999999999"), "999999998000000001/999999996000000005999999996000000002", api.OK},
	} {
		l, e := lineOf(row.w, row.i, row.j)
		want(t, "Line of "+row.what, l, e, line{row.way, row.s}, row.e)
	}
}

func TestBacking(t *testing.T) {
	for _, row := range []struct {
		what string
		w    api.Wing
		i, j int
		a, b api.Rat
		e    api.Errno
	}{
		{"0 and 1", house(), 0, 1, "1/3", "1/3", api.OK}, {"2 and 1", house(), 2, 1, "1/3", "1/3", api.OK},
		{"a ridge", house(), 0, 2, "", "", api.ErrState}, {"a ridge of unequal slopes", changed(slope(0, "1/2")), 0, 2, "", "", api.ErrState}, {"the same side", house(), 2, 2, "", "", api.ErrNone}, {"a gable", gabled(), 0, 1, "", "", api.ErrUnknown},
		// With the normals 0 -1 2 and 1 0 1 the way is -1 2 1, u -2 -1 0 and v 1 -2 5: 1 and 12, and -2 and 6, with 30 / 5.
		{"unequal slopes", changed(slope(0, "1/2")), 0, 1, "1/24", "2/3", api.OK}, {"unequal slopes the other way", changed(slope(0, "1/2")), 1, 0, "2/3", "1/24", api.OK},
	} {
		l, e := both(roof.Backing(row.w, row.i, row.j))
		want(t, "Backing of "+row.what, l, e, [2]api.Rat{row.a, row.b}, row.e)
	}
}

func TestCheek(t *testing.T) {
	for _, row := range []struct {
		what string
		w    api.Wing
		i, j int
		a    api.Rat
		e    api.Errno
	}{
		{"0 and 1", house(), 0, 1, "1/2", api.OK}, {"1 and 0", house(), 1, 0, "1/2", api.OK}, {"a ridge", house(), 0, 2, "", api.ErrZero}, {"the same side", house(), 0, 0, "", api.ErrNone}, {"a gable", gabled(), 2, 1, "", api.ErrUnknown},
		// With the way -1 2 1 and g = 0 1/2 1/4 the products are 0 -1/4 1/2 and 5/4, with g = -1 0 1 they are -2 0 -2 and 2.
		{"unequal slopes", changed(slope(0, "1/2")), 0, 1, "1/5", api.OK}, {"unequal slopes the other way", changed(slope(0, "1/2")), 1, 0, "2", api.OK},
	} {
		a, e := roof.Cheek(row.w, row.i, row.j)
		want(t, "Cheek of "+row.what, a, e, row.a, row.e)
	}
}

// Large normals come behind the numbers of sides, and ahead of everything else; only those of i and j count.
func TestSeamAtLimits(t *testing.T) {
	for _, row := range []struct {
		what string
		w    api.Wing
		i, j int
		e    [3]api.Errno // of Line, Backing and Cheek
	}{
		{"the greatest slope", changed(slope(0, "999999999")), 0, 1, [3]api.Errno{}}, {"the least slope", changed(slope(0, "1/999999999")), 1, 0, [3]api.Errno{}}, {"both", changed(changes(slope(0, "999999999"), slope(1, "1/999999999"))), 0, 1, [3]api.Errno{}},
		{"a large normal of i", changed(slope(0, "1000000000")), 0, 1, [3]api.Errno{api.ErrLarge, api.ErrLarge, api.ErrLarge}}, {"a large normal of j", changed(slope(0, "1/1000000000")), 1, 0, [3]api.Errno{api.ErrLarge, api.ErrLarge, api.ErrLarge}},
		{"a large normal of both", changed(slope(0, "1000000000")), 0, 0, [3]api.Errno{api.ErrLarge, api.ErrLarge, api.ErrLarge}}, {"a large normal at a ridge", changed(slope(0, "1000000000")), 0, 2, [3]api.Errno{api.ErrLarge, api.ErrLarge, api.ErrLarge}},
		{"a large normal of another side", changed(slope(0, "1000000000")), 1, 2, [3]api.Errno{}}, {"a side that does not exist", changed(slope(0, "1000000000")), 0, 4, [3]api.Errno{api.ErrUnknown, api.ErrUnknown, api.ErrUnknown}},
		{"a large height", changed(height(nines(600))), 0, 1, [3]api.Errno{}}, {"a ridge", changed(height(nines(600))), 0, 2, [3]api.Errno{api.OK, api.ErrState, api.ErrZero}},
	} {
		l, e := lineOf(row.w, row.i, row.j)
		wantError(t, "Line with "+row.what, e, row.e[0])
		if e != api.OK && l != (line{}) {
			t.Errorf("Line with %s: got %v beside an error", row.what, l)
		}
		_, _, e = roof.Backing(row.w, row.i, row.j)
		wantError(t, "Backing with "+row.what, e, row.e[1])
		_, e = roof.Cheek(row.w, row.i, row.j)
		wantError(t, "Cheek with "+row.what, e, row.e[2])
	}
}

// arrow is a vector of package big.
type arrow [3]*big.Rat

func (v arrow) cross(w arrow) arrow {
	var c arrow
	for i := range c {
		j, k := (i+1)%3, (i+2)%3
		c[i] = sub(mul(v[j], w[k]), mul(v[k], w[j]))
	}
	return c
}

func (v arrow) dot(w arrow) *big.Rat {
	return add(add(mul(v[0], w[0]), mul(v[1], w[1])), mul(v[2], w[2]))
}

// normal returns the normal of a plane: integers without a common divisor.
func (f field) normal() arrow {
	n := arrow{new(big.Rat).Neg(f.a), new(big.Rat).Neg(f.b), frac(1, 1)}
	factor := new(big.Rat).SetInt(new(big.Int).Mul(f.a.Denom(), f.b.Denom()))
	common := new(big.Int)
	for i := range n {
		n[i] = mul(n[i], factor)
		common.GCD(nil, nil, common, new(big.Int).Abs(n[i].Num()))
	}
	for i := range n {
		n[i] = quo(n[i], new(big.Rat).SetInt(common))
	}
	return n
}

// TestAnySeams compares the results with the formulas of the chapter.
func TestAnySeams(t *testing.T) {
	s := newSource(9)
	zero := new(big.Rat)
	for range 200 {
		w := s.wing()
		m := modelOf(w)
		for i, f := range m.planes {
			for j, g := range m.planes {
				if i == j {
					continue
				}
				n, o := f.normal(), g.normal()
				r := n.cross(o)
				if sign := r[2].Sign()*4 + r[0].Sign()*2 + r[1].Sign(); sign < 0 {
					r = o.cross(n)
				}
				run := arrow{r[0], r[1], zero}
				l, e := lineOf(w, i, j)
				want(t, "Line", l, e, line{vec(ratOf(r[0]), ratOf(r[1]), ratOf(r[2])), ratOf(quo(square(r[2]), run.dot(run)))}, api.OK)
				backing, e := both(roof.Backing(w, i, j))
				if r[2].Sign() == 0 {
					want(t, "Backing", backing, e, [2]api.Rat{}, api.ErrState)
				} else {
					u := arrow{new(big.Rat).Neg(r[1]), r[0], zero}
					v := r.cross(u)
					tangent := func(n arrow) api.Rat {
						return ratOf(quo(mul(square(n.dot(u)), v.dot(v)), mul(square(n.dot(v)), u.dot(u))))
					}
					want(t, "Backing", backing, e, [2]api.Rat{tangent(n), tangent(o)}, api.OK)
				}
				// The rise of a plane is its slope times the unit vector to the inside.
				up := arrow{f.a, f.b, square(bigOf(w.Slopes[i]))}
				cheek, e := roof.Cheek(w, i, j)
				if along := up.dot(r); along.Sign() == 0 {
					want(t, "Cheek", cheek, e, "", api.ErrZero)
				} else {
					want(t, "Cheek", cheek, e, ratOf(quo(up.cross(r).dot(up.cross(r)), square(along))), api.OK)
				}
			}
		}
	}
}
