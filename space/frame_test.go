package space

import (
	"math/big"
	"testing"

	"trunnel/api"
)

// P1.4

// example returns the frame of the chapter's examples.
func example() api.Frame {
	return api.Frame{Origin: api.Vec{"1", "0", "0"}, X: api.Vec{"3", "4", "0"}, Y: api.Vec{"-4", "3", "0"}, Z: api.Vec{"0", "0", "5"}}
}

// plain returns the frame of space itself.
func plain() api.Frame {
	return api.Frame{Origin: api.Vec{"0", "0", "0"}, X: api.Vec{"1", "0", "0"}, Y: api.Vec{"0", "1", "0"}, Z: api.Vec{"0", "0", "1"}}
}

// stretched returns a frame along the axes of space.
func stretched(x, y, z api.Rat) api.Frame {
	return api.Frame{Origin: api.Vec{"0", "0", "0"}, X: api.Vec{x, "0", "0"}, Y: api.Vec{"0", y, "0"}, Z: api.Vec{"0", "0", z}}
}

func TestCheckFrame(t *testing.T) {
	large, bad, zero := api.Vec{"0", "0", api.Rat(nines(601))}, api.Vec{"0", "", "0"}, api.Vec{"0", "0", "0"}
	f := example()
	for _, row := range []struct {
		what string
		f    api.Frame
		e    api.Errno
	}{
		{"the example", f, api.OK},
		{"space", plain(), api.OK},
		{"axes of different lengths", stretched("1/2", "3", api.Rat(nines(600))), api.OK},
		{"two axes turned round", stretched("-1", "-2", "3"), api.OK},
		{"no texts", api.Frame{}, api.ErrForm},
		{"a bad origin", api.Frame{Origin: bad, X: large, Y: zero, Z: zero}, api.ErrForm},
		{"a large origin", api.Frame{Origin: large, X: bad, Y: zero, Z: zero}, api.ErrLarge},
		{"a large X", api.Frame{Origin: zero, X: large, Y: bad, Z: bad}, api.ErrLarge},
		{"a bad X", api.Frame{Origin: zero, X: bad, Y: large, Z: large}, api.ErrForm},
		{"a large Y", api.Frame{Origin: zero, X: zero, Y: large, Z: bad}, api.ErrLarge},
		{"a bad Z", api.Frame{Origin: zero, X: zero, Y: zero, Z: bad}, api.ErrForm},
		{"X 0", api.Frame{Origin: zero, X: zero, Y: f.Y, Z: f.Z}, api.ErrZero},
		{"Y 0", api.Frame{Origin: zero, X: f.X, Y: zero, Z: f.Z}, api.ErrZero},
		{"Z 0, X and Y not orthogonal", api.Frame{Origin: zero, X: f.X, Y: f.X, Z: zero}, api.ErrZero},
		{"X and Y not orthogonal", api.Frame{Origin: zero, X: f.X, Y: api.Vec{"-4", "4", "0"}, Z: f.Z}, api.ErrFrame},
		{"Y and Z not orthogonal", api.Frame{Origin: zero, X: f.X, Y: f.Y, Z: api.Vec{"-4", "3", "5"}}, api.ErrFrame},
		{"X and Z not orthogonal", api.Frame{Origin: zero, X: f.X, Y: f.Y, Z: api.Vec{"3", "4", "5"}}, api.ErrFrame},
		{"axes in one plane", api.Frame{Origin: zero, X: f.X, Y: f.Y, Z: f.X}, api.ErrFrame},
		{"X and Y exchanged", api.Frame{Origin: zero, X: f.Y, Y: f.X, Z: f.Z}, api.ErrFrame},
		{"one axis turned round", stretched("1", "1", "-1"), api.ErrFrame},
		{"all axes turned round", stretched("-1", "-1", "-1"), api.ErrFrame},
	} {
		wantError(t, row.what, CheckFrame(row.f), row.e)
		if row.e != api.OK {
			v, e := Stretch(row.f)
			want(t, "Stretch of "+row.what, v, e, api.Vec{}, row.e)
			g, e := Inverse(row.f)
			want(t, "Inverse of "+row.what, g, e, api.Frame{}, row.e)
		}
	}
}

func TestPlaceAndLocal(t *testing.T) {
	s := newSource(13)
	for i := range 800 {
		f, p := s.frame(1+i%4), s.vec(1+i%4+i%60/59*590)
		x, r := bigVecOf(p), bigFrameOf(f)
		wantError(t, "CheckFrame", CheckFrame(f), api.OK)
		v, e := Place(f, p)
		wantVec(t, "Place", v, e, r.place(x))
		v, e = Local(f, p)
		wantVec(t, "Local", v, e, r.local(x))
		v, e = Stretch(f)
		wantVec(t, "Stretch", v, e, bigVec{r[1].dot(r[1]), r[2].dot(r[2]), r[3].dot(r[3])})
		g, e := Shift(f, p)
		wanted := f
		var wantedErr api.Errno
		if wanted.Origin, wantedErr = r[0].plus(x).vec(); wantedErr != api.OK {
			wanted = api.Frame{}
		}
		want(t, "Shift", g, e, wanted, wantedErr)
	}
}

// pointOf returns a point of the plane of a half-space, and its normal.
func pointOf(h api.Half) (p, n bigVec) {
	n = normalOf(h)
	return n.times(quo(bigOf(h.D), n.dot(n))), n
}

// mapped returns the half-space of the points to which a linear map with an offset brings those of h: its plane goes
// through what it makes of three points of the plane of h, and inside is what it makes of a point inside.
func mapped(h api.Half, move func(bigVec) bigVec) (n bigVec, d *big.Rat) {
	p, normal := pointOf(h)
	side := bigVec{frac(0, 1), frac(0, 1), frac(0, 1)}
	for i := range 3 {
		unit := bigVec{frac(0, 1), frac(0, 1), frac(0, 1)}
		unit[i] = frac(1, 1)
		if side = normal.cross(unit); !side.isZero() {
			break
		}
	}
	a, b, c := move(p), move(p.plus(side)), move(p.plus(normal.cross(side)))
	n = b.minus(a).cross(c.minus(a))
	if n.dot(move(p.minus(normal)).minus(a)).Sign() > 0 {
		n = n.times(frac(-1, 1))
	}
	return n, n.dot(a)
}

func TestPlaceHalfAndLocalHalf(t *testing.T) {
	s := newSource(14)
	fine := 0
	for i := range 800 {
		f, h := s.frame(1+i%2), s.half(1+i%4+i%60/59*590)
		r := bigFrameOf(f)
		g, e := PlaceHalf(f, h)
		n, d := mapped(h, r.place)
		wantHalf(t, "PlaceHalf", g, e, n, d)
		if e == api.OK {
			fine++
			back, e := LocalHalf(f, g)
			want(t, "LocalHalf of PlaceHalf", back, e, h, api.OK)
		}
		g, e = LocalHalf(f, h)
		n, d = mapped(h, r.local)
		wantHalf(t, "LocalHalf", g, e, n, d)
		if e == api.OK {
			back, e := PlaceHalf(f, g)
			want(t, "PlaceHalf of LocalHalf", back, e, h, api.OK)
		}
	}
	if fine < 200 {
		t.Errorf("only %d half-spaces were placed", fine)
	}
}

func TestComposeAndInverse(t *testing.T) {
	s := newSource(15)
	askew := 0
	for i := range 800 {
		f, g := s.frame(1+i%3), s.frame(1+i%3)
		if i%2 == 0 { // these always fit, and the others hardly ever
			f = s.rotated(2)
		}
		r, q := bigFrameOf(f), bigFrameOf(g)
		zero := r[0].times(frac(0, 1))
		wanted := bigFrame{r.place(q[0]), r.place(q[1]).minus(r[0]), r.place(q[2]).minus(r[0]), r.place(q[3]).minus(r[0])}
		c, e := Compose(f, g)
		wantFrame(t, "Compose", c, e, wanted)
		if e == api.ErrFrame {
			askew++
		}
		unit := func(i int) bigVec {
			v := bigVec{frac(0, 1), frac(0, 1), frac(0, 1)}
			v[i] = frac(1, 1)
			return r.local(v).minus(r.local(zero))
		}
		c, e = Inverse(f)
		wantFrame(t, "Inverse", c, e, bigFrame{r.local(zero), unit(0), unit(1), unit(2)})
	}
	if askew < 100 || askew > 400 {
		t.Errorf("%d of 800 frames do not compose", askew)
	}
}

// wantFrame compares a frame with a big one, which is ErrFrame if its axes are not orthogonal.
func wantFrame(t *testing.T, what string, got api.Frame, e api.Errno, wanted bigFrame) {
	t.Helper()
	if !wanted.isOrthogonal() {
		want(t, what, got, e, api.Frame{}, api.ErrFrame)
		return
	}
	f, wantedErr := wanted.frame()
	want(t, what, got, e, f, wantedErr)
	if e == api.OK {
		wantError(t, what+", checked", CheckFrame(got), api.OK)
	}
}

// rotated returns a frame with axes of equal lengths.
func (s source) rotated(most int) api.Frame {
	for {
		f, e := Turn([4]api.Rat{s.rat(most), s.rat(most), s.rat(most), s.rat(most)})
		if e != api.OK {
			continue
		}
		r, length := bigFrameOf(f), s.positive()
		f, _ = bigFrame{bigVecOf(s.vec(most)), r[1].times(length), r[2].times(length), r[3].times(length)}.frame()
		return f
	}
}

func TestTurn(t *testing.T) {
	s := newSource(16)
	for i := range 600 {
		most := 1 + i%4 + i%60/59*140
		q := [4]api.Rat{s.rat(most), s.rat(most), s.rat(most), s.rat(most)}
		f, e := Turn(q)
		w, x, y, z := bigOf(q[0]), bigOf(q[1]), bigOf(q[2]), bigOf(q[3])
		square := add(add(mul(w, w), mul(x, x)), add(mul(y, y), mul(z, z)))
		if square.Sign() == 0 {
			want(t, "Turn of 0", f, e, api.Frame{}, api.ErrZero)
			continue
		}
		// The matrix of a rotation by Euler and Rodrigues.
		entry := func(a, b *big.Rat) *big.Rat { return quo(mul(frac(2, 1), add(a, b)), square) }
		diagonal := func(a, b *big.Rat) *big.Rat { return sub(frac(1, 1), entry(mul(a, a), mul(b, b))) }
		less := func(a, b *big.Rat) *big.Rat { return mul(frac(-1, 1), mul(a, b)) }
		wanted := bigFrame{
			{frac(0, 1), frac(0, 1), frac(0, 1)},
			{diagonal(y, z), entry(mul(x, y), mul(w, z)), entry(mul(x, z), less(w, y))},
			{entry(mul(x, y), less(w, z)), diagonal(x, z), entry(mul(y, z), mul(w, x))},
			{entry(mul(x, z), mul(w, y)), entry(mul(y, z), less(w, x)), diagonal(x, y)},
		}
		r, wantedErr := wanted.frame()
		want(t, "Turn", f, e, r, wantedErr)
	}
	large := api.Rat(nines(601))
	for i := range 4 {
		q := [4]api.Rat{"x", "x", "x", "x"}
		q[i] = large
		for j := range i {
			q[j] = "0"
		}
		f, e := Turn(q)
		want(t, "Turn of a large number", f, e, api.Frame{}, api.ErrLarge)
	}
	f, e := Turn([4]api.Rat{"0", "0", "0", "-1/" + api.Rat(nines(600))})
	want(t, "Turn of half a round", f, e, stretched("-1", "-1", "1"), api.OK)
	f, e = Turn([4]api.Rat{api.Rat(nines(600)), "1", "0", "0"})
	want(t, "Turn with great numbers", f, e, api.Frame{}, api.ErrLarge)
}

func TestFrameExamples(t *testing.T) {
	v, e := Place(example(), api.Vec{"1", "1", "1"})
	want(t, "Place", v, e, api.Vec{"0", "7", "5"}, api.OK)
	v, e = Local(example(), api.Vec{"0", "7", "5"})
	want(t, "Local", v, e, api.Vec{"1", "1", "1"}, api.OK)
	v, e = Stretch(example())
	want(t, "Stretch", v, e, api.Vec{"25", "25", "25"}, api.OK)
	h, e := PlaceHalf(example(), api.Half{N: [3]int{1, 0, 0}, D: "1"})
	want(t, "PlaceHalf", h, e, api.Half{N: [3]int{3, 4, 0}, D: "28"}, api.OK)
	turn, e := Turn([4]api.Rat{"1", "0", "0", "1"})
	want(t, "Turn", turn, e, api.Frame{Origin: api.Vec{"0", "0", "0"}, X: api.Vec{"0", "1", "0"}, Y: api.Vec{"-1", "0", "0"}, Z: api.Vec{"0", "0", "1"}}, api.OK)
	f, e := Compose(example(), example())
	want(t, "Compose", f, e, api.Frame{Origin: api.Vec{"4", "4", "0"}, X: api.Vec{"-7", "24", "0"}, Y: api.Vec{"-24", "-7", "0"}, Z: api.Vec{"0", "0", "25"}}, api.OK)
	f, e = Inverse(example())
	want(t, "Inverse", f, e, api.Frame{Origin: api.Vec{"-3/25", "4/25", "0"}, X: api.Vec{"3/25", "-4/25", "0"}, Y: api.Vec{"4/25", "3/25", "0"}, Z: api.Vec{"0", "0", "1/5"}}, api.OK)
	flat := example()
	flat.Z = api.Vec{"0", "0", "1"}
	quarter, _ := Turn([4]api.Rat{"1", "0", "1", "0"})
	f, e = Compose(flat, quarter)
	want(t, "Compose along the axes", f, e, api.Frame{Origin: flat.Origin, X: api.Vec{"0", "0", "-1"}, Y: api.Vec{"-4", "3", "0"}, Z: api.Vec{"3", "4", "0"}}, api.OK)
	askew, _ := Turn([4]api.Rat{"2", "0", "1", "0"})
	f, e = Compose(flat, askew)
	want(t, "Compose askew", f, e, api.Frame{}, api.ErrFrame)
}

func TestFrameLimits(t *testing.T) {
	most := api.Rat(nines(600))
	f := stretched("1/2", "1", most)
	v, e := Place(f, api.Vec{"1", "1", "2"})
	want(t, "Place above the limit", v, e, api.Vec{}, api.ErrLarge)
	v, e = Place(f, api.Vec{"1/" + most, "1", "1"})
	want(t, "Place with a great denominator", v, e, api.Vec{}, api.ErrLarge)
	v, e = Local(f, api.Vec{most, "1", "1"})
	want(t, "Local above the limit", v, e, api.Vec{}, api.ErrLarge)
	v, e = Local(f, api.Vec{"1", "1", most})
	want(t, "Local", v, e, api.Vec{"2", "1", "1"}, api.OK)
	v, e = Stretch(f)
	want(t, "Stretch above the limit", v, e, api.Vec{}, api.ErrLarge)
	h, e := PlaceHalf(f, api.Half{N: [3]int{1, 0, 1}, D: "1"})
	want(t, "PlaceHalf with a great normal", h, e, api.Half{}, api.ErrLarge)
	h, e = PlaceHalf(f, api.Half{N: [3]int{0, 0, 1}, D: "2"})
	want(t, "PlaceHalf with a great number", h, e, api.Half{}, api.ErrLarge)
	h, e = LocalHalf(f, api.Half{N: [3]int{0, 1, 1}, D: "1"})
	want(t, "LocalHalf with a great normal", h, e, api.Half{}, api.ErrLarge)
	h, e = LocalHalf(f, api.Half{N: [3]int{1, 0, 0}, D: most})
	want(t, "LocalHalf with a great number", h, e, api.Half{}, api.ErrLarge)
	h, e = LocalHalf(f, api.Half{N: [3]int{0, 0, 1}, D: most})
	want(t, "LocalHalf", h, e, api.Half{N: [3]int{0, 0, 1}, D: "1"}, api.OK)
	g, e := Compose(f, f)
	want(t, "Compose above the limit", g, e, api.Frame{}, api.ErrLarge)
	g, e = Inverse(f)
	want(t, "Inverse at the limit", g, e, stretched("2", "1", "1/"+most), api.OK)
	f.Origin = api.Vec{most, "0", "0"}
	g, e = Inverse(f)
	want(t, "Inverse above the limit", g, e, api.Frame{}, api.ErrLarge)
	g, e = Shift(f, api.Vec{"1", "0", "0"})
	want(t, "Shift above the limit", g, e, api.Frame{}, api.ErrLarge)
	g, e = Shift(f, api.Vec{"-" + most, "0", "1"})
	want(t, "Shift", g.Origin, e, api.Vec{"0", "0", "1"}, api.OK)
	// Both errors: the axes come first.
	g, e = Inverse(api.Frame{Origin: api.Vec{most, most, most}, X: api.Vec{"1", "1", "0"}, Y: api.Vec{"-2", "2", "0"}, Z: api.Vec{"0", "0", "1/7"}})
	want(t, "Inverse askew and above the limit", g, e, api.Frame{}, api.ErrFrame)
	askew, _ := Turn([4]api.Rat{"2", "0", "1", "0"})
	askew.Origin = api.Vec{"0", "0", most}
	g, e = Compose(stretched("1", "1", "3"), askew)
	want(t, "Compose askew and above the limit", g, e, api.Frame{}, api.ErrFrame)
}
