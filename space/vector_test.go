package space

import (
	"testing"

	"trunnel/api"
)

// P1.2

func TestCheckVec(t *testing.T) {
	large := api.Rat(nines(601))
	for _, row := range []struct {
		v api.Vec
		e api.Errno
	}{
		{api.Vec{"0", "0", "0"}, api.OK}, {api.Vec{"1/2", "-3", api.Rat(nines(600))}, api.OK},
		{api.Vec{}, api.ErrForm}, {api.Vec{"0", "1", "2/4"}, api.ErrForm}, {api.Vec{"0", "1", ""}, api.ErrForm}, {api.Vec{"", "1", "0"}, api.ErrForm},
		{api.Vec{"0", large, "x"}, api.ErrLarge}, {api.Vec{"0", "x", large}, api.ErrForm}, {api.Vec{large, "", ""}, api.ErrLarge},
	} {
		wantError(t, "CheckVec", CheckVec(row.v), row.e)
	}
}

func TestVectors(t *testing.T) {
	s := newSource(5)
	for i := range 2000 {
		most := 1 + i%3*2 + i%40/39*350
		a, b, c := s.vec(most), s.vec(most), s.rat(most)
		x, y, z := bigVecOf(a), bigVecOf(b), bigOf(c)
		v, e := AddVec(a, b)
		wantVec(t, "AddVec", v, e, x.plus(y))
		v, e = SubVec(a, b)
		wantVec(t, "SubVec", v, e, x.minus(y))
		v, e = Scale(c, a)
		wantVec(t, "Scale", v, e, x.times(z))
		v, e = Cross(a, b)
		wantVec(t, "Cross", v, e, x.cross(y))
		r, e := Dot(a, b)
		wantRat(t, "Dot", r, e, x.dot(y))
		r, e = Square(a)
		wantRat(t, "Square", r, e, x.dot(x))
	}
}

func TestVectorLimits(t *testing.T) {
	most := api.Rat(nines(600))
	v, e := AddVec(api.Vec{"1", "1", most}, api.Vec{"1", "1", "1"})
	want(t, "AddVec above the limit", v, e, api.Vec{}, api.ErrLarge)
	v, e = SubVec(api.Vec{"1", "-" + most, "1"}, api.Vec{"1", "1", "1"})
	want(t, "SubVec above the limit", v, e, api.Vec{}, api.ErrLarge)
	v, e = Scale("1/2", api.Vec{"1", "1/" + most, "1"})
	want(t, "Scale above the limit", v, e, api.Vec{}, api.ErrLarge)
	v, e = Cross(api.Vec{most, "0", "0"}, api.Vec{"0", "2", "0"})
	want(t, "Cross above the limit", v, e, api.Vec{}, api.ErrLarge)
	r, e := Square(api.Vec{most, "0", "0"})
	want(t, "Square above the limit", r, e, "", api.ErrLarge)
	// The products are above the limit, the sum is not.
	r, e = Dot(api.Vec{most, most, "1"}, api.Vec{most, "-" + most, "5"})
	want(t, "Dot with great products", r, e, "5", api.OK)
	v, e = Cross(api.Vec{most, most, "1"}, api.Vec{most, most, "1"})
	want(t, "Cross of a great vector with itself", v, e, api.Vec{"0", "0", "0"}, api.OK)
}

func TestVectorExamples(t *testing.T) {
	v, e := Cross(api.Vec{"1", "0", "0"}, api.Vec{"0", "1", "0"})
	want(t, "Cross", v, e, api.Vec{"0", "0", "1"}, api.OK)
	v, e = Cross(api.Vec{"0", "1", "0"}, api.Vec{"1", "0", "0"})
	want(t, "Cross", v, e, api.Vec{"0", "0", "-1"}, api.OK)
	v, e = SubVec(api.Vec{"1", "0", "1/2"}, api.Vec{"3", "0", "1/3"})
	want(t, "SubVec", v, e, api.Vec{"-2", "0", "1/6"}, api.OK)
}

func TestAlong(t *testing.T) {
	most := api.Rat(nines(600))
	for _, row := range []struct {
		u, v api.Vec
		a    api.Rat
		e    api.Errno
	}{
		{api.Vec{"2", "0", "4"}, api.Vec{"-1", "0", "-2"}, "-1/2", api.OK},
		{api.Vec{"2", "0", "4"}, api.Vec{"0", "0", "0"}, "0", api.OK},
		{api.Vec{"0", "0", "-1/3"}, api.Vec{"0", "0", "5"}, "-15", api.OK},
		{api.Vec{"0", "1", "0"}, api.Vec{"0", "7", "0"}, "7", api.OK},
		{api.Vec{"1/" + most, most, "1"}, api.Vec{"1/" + most, most, "1"}, "1", api.OK},
		{api.Vec{"2", "0", "4"}, api.Vec{"1", "1", "2"}, "", api.ErrNone},
		{api.Vec{"2", "0", "4"}, api.Vec{"1", "0", "3"}, "", api.ErrNone},
		{api.Vec{"1", "0", "0"}, api.Vec{"0", "1", "0"}, "", api.ErrNone},
		{api.Vec{"0", "0", "0"}, api.Vec{"0", "0", "0"}, "", api.ErrZero},
		{api.Vec{"0", "0", "0"}, api.Vec{"1", "0", "0"}, "", api.ErrZero},
		{api.Vec{"0", "0", "1/2"}, api.Vec{"0", "0", most}, "", api.ErrLarge},
	} {
		a, e := Along(row.u, row.v)
		want(t, "Along", a, e, row.a, row.e)
	}
	s := newSource(6)
	for range 500 {
		u, c := s.nonzero(5), s.rat(5)
		v, _ := Scale(c, u)
		a, e := Along(u, v)
		want(t, "Along of a multiple", a, e, c, api.OK)
		w := s.vec(2)
		if !bigVecOf(u).cross(bigVecOf(w)).isZero() {
			a, e = Along(u, w)
			want(t, "Along of another direction", a, e, "", api.ErrNone)
		}
	}
}
