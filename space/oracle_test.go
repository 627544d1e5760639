package space

import (
	"math/big"
	"math/rand"
	"strings"
	"testing"

	"trunnel/api"
)

// The tests compute what they expect with math/big, from the definitions of the chapter.

// want reports a result or an error that is not the wanted one.
func want[T comparable](t *testing.T, what string, got T, e api.Errno, wanted T, wantedErr api.Errno) {
	t.Helper()
	if got != wanted || e != wantedErr {
		t.Errorf("%s: got %v, error %d; want %v, error %d", what, got, e, wanted, wantedErr)
	}
}

// wantError reports an error that is not the wanted one.
func wantError(t *testing.T, what string, e, wanted api.Errno) {
	t.Helper()
	want(t, what, 0, e, 0, wanted)
}

// wantVec compares a vector with what big numbers make of it.
func wantVec(t *testing.T, what string, got api.Vec, e api.Errno, wanted bigVec) {
	t.Helper()
	v, wantedErr := wanted.vec()
	want(t, what, got, e, v, wantedErr)
}

// wantRat compares a number with a big one.
func wantRat(t *testing.T, what string, got api.Rat, e api.Errno, wanted *big.Rat) {
	t.Helper()
	a, wantedErr := ratOf(wanted)
	want(t, what, got, e, a, wantedErr)
}

// wantHalf compares a half-space with that of a normal and a product.
func wantHalf(t *testing.T, what string, got api.Half, e api.Errno, n bigVec, d *big.Rat) {
	t.Helper()
	h, wantedErr := halfOf(n, d)
	want(t, what, got, e, h, wantedErr)
}

// nines returns a text of so many nines, ones so many ones, zeros so many zeros.
func nines(n int) string { return strings.Repeat("9", n) }
func ones(n int) string  { return strings.Repeat("1", n) }
func zeros(n int) string { return strings.Repeat("0", n) }

// frac returns a big number.
func frac(num, den int64) *big.Rat { return big.NewRat(num, den) }

// bigOf returns the big number of a text that is one.
func bigOf(a api.Rat) *big.Rat {
	x, ok := new(big.Rat).SetString(string(a))
	if !ok {
		panic("no number: " + string(a))
	}
	return x
}

// ratOf returns the text of a big number, or ErrLarge.
func ratOf(x *big.Rat) (api.Rat, api.Errno) {
	if len(new(big.Int).Abs(x.Num()).String()) > api.MaxDigits || len(x.Denom().String()) > api.MaxDigits {
		return "", api.ErrLarge
	}
	return api.Rat(x.RatString()), api.OK
}

func add(a, b *big.Rat) *big.Rat { return new(big.Rat).Add(a, b) }
func sub(a, b *big.Rat) *big.Rat { return new(big.Rat).Sub(a, b) }
func mul(a, b *big.Rat) *big.Rat { return new(big.Rat).Mul(a, b) }
func quo(a, b *big.Rat) *big.Rat { return new(big.Rat).Quo(a, b) }

// bigVec is a vector of big numbers.
type bigVec [3]*big.Rat

func bigVecOf(v api.Vec) bigVec { return bigVec{bigOf(v[0]), bigOf(v[1]), bigOf(v[2])} }

func (a bigVec) vec() (api.Vec, api.Errno) {
	var v api.Vec
	for i := range v {
		x, e := ratOf(a[i])
		if e != api.OK {
			return api.Vec{}, e
		}
		v[i] = x
	}
	return v, api.OK
}

func (a bigVec) plus(b bigVec) bigVec {
	return bigVec{add(a[0], b[0]), add(a[1], b[1]), add(a[2], b[2])}
}

func (a bigVec) times(c *big.Rat) bigVec {
	return bigVec{mul(c, a[0]), mul(c, a[1]), mul(c, a[2])}
}

func (a bigVec) minus(b bigVec) bigVec { return a.plus(b.times(frac(-1, 1))) }

func (a bigVec) dot(b bigVec) *big.Rat {
	return add(add(mul(a[0], b[0]), mul(a[1], b[1])), mul(a[2], b[2]))
}

func (a bigVec) cross(b bigVec) bigVec {
	return bigVec{
		sub(mul(a[1], b[2]), mul(a[2], b[1])),
		sub(mul(a[2], b[0]), mul(a[0], b[2])),
		sub(mul(a[0], b[1]), mul(a[1], b[0])),
	}
}

func (a bigVec) isZero() bool { return a[0].Sign() == 0 && a[1].Sign() == 0 && a[2].Sign() == 0 }

// normalOf returns the normal of a half-space.
func normalOf(h api.Half) bigVec {
	return bigVec{frac(int64(h.N[0]), 1), frac(int64(h.N[1]), 1), frac(int64(h.N[2]), 1)}
}

// halfOf returns the half-space of a normal that is not 0 and a product, or ErrLarge.
func halfOf(n bigVec, d *big.Rat) (api.Half, api.Errno) {
	common := big.NewInt(1)
	for _, x := range n {
		common.Mul(common, x.Denom())
	}
	factor := new(big.Rat).SetInt(common)
	divisor := new(big.Int)
	for _, x := range n.times(factor) {
		divisor.GCD(nil, nil, divisor, new(big.Int).Abs(x.Num()))
	}
	factor.Quo(factor, new(big.Rat).SetInt(divisor))
	var h api.Half
	for i, x := range n.times(factor) {
		if x.Num().CmpAbs(big.NewInt(api.MaxNumber)) > 0 {
			return api.Half{}, api.ErrLarge
		}
		h.N[i] = int(x.Num().Int64())
	}
	var e api.Errno
	if h.D, e = ratOf(mul(d, factor)); e != api.OK {
		return api.Half{}, e
	}
	return h, api.OK
}

// source makes arguments, the same ones in each run.
type source struct{ *rand.Rand }

func newSource(seed int64) source { return source{rand.New(rand.NewSource(seed))} }

// digits returns a text of so many digits, the first of which is not 0; often they are all alike.
func (s source) digits(n int) string {
	if s.Intn(3) == 0 {
		return strings.Repeat(string(rune('1'+s.Intn(9))), n)
	}
	b := make([]byte, n)
	for i := range b {
		b[i] = byte('0' + s.Intn(10))
	}
	b[0] = byte('1' + s.Intn(9))
	return string(b)
}

// rat returns a number, whose numerator and denominator have at most so many digits.
func (s source) rat(most int) api.Rat {
	x, _ := new(big.Rat).SetString(s.digits(1+s.Intn(most)) + "/" + s.digits(1+s.Intn(most)))
	switch s.Intn(6) {
	case 0:
		return "0"
	case 1:
		x = new(big.Rat).SetInt(x.Num())
	case 2, 3:
		x.Neg(x)
	}
	a, _ := ratOf(x)
	return a
}

func (s source) vec(most int) api.Vec { return api.Vec{s.rat(most), s.rat(most), s.rat(most)} }

// nonzero returns a vector other than 0.
func (s source) nonzero(most int) api.Vec {
	for {
		if v := s.vec(most); !bigVecOf(v).isZero() {
			return v
		}
	}
}

// half returns a half-space.
func (s source) half(most int) api.Half {
	for {
		n := bigVec{frac(s.coordinate(), 1), frac(s.coordinate(), 1), frac(s.coordinate(), 1)}
		if n.isZero() {
			continue
		}
		if h, e := halfOf(n, bigOf(s.rat(most))); e == api.OK {
			return h
		}
	}
}

// coordinate returns a number that a normal may have.
func (s source) coordinate() int64 {
	if s.Intn(4) == 0 {
		return int64(s.Intn(2*api.MaxNumber+1)) - api.MaxNumber
	}
	return int64(s.Intn(9)) - 4
}

// frame returns a frame with axes of any lengths.
func (s source) frame(most int) api.Frame {
	for {
		x, v := bigVecOf(s.nonzero(most)), bigVecOf(s.nonzero(most))
		z := x.cross(v)
		if z.isZero() {
			continue
		}
		y := z.cross(x)
		f := bigFrame{bigVecOf(s.vec(most)), x, y.times(s.positive()), z.times(s.positive())}
		if r, e := f.frame(); e == api.OK {
			return r
		}
	}
}

// positive returns a number above 0.
func (s source) positive() *big.Rat { return frac(1+int64(s.Intn(9)), 1+int64(s.Intn(9))) }

// bigFrame is a frame of big numbers: its origin and its axes.
type bigFrame [4]bigVec

func bigFrameOf(f api.Frame) bigFrame {
	return bigFrame{bigVecOf(f.Origin), bigVecOf(f.X), bigVecOf(f.Y), bigVecOf(f.Z)}
}

func (f bigFrame) frame() (api.Frame, api.Errno) {
	var v [4]api.Vec
	for i := range f {
		var e api.Errno
		if v[i], e = f[i].vec(); e != api.OK {
			return api.Frame{}, e
		}
	}
	return api.Frame{Origin: v[0], X: v[1], Y: v[2], Z: v[3]}, api.OK
}

// place returns the point with the coordinates p.
func (f bigFrame) place(p bigVec) bigVec {
	return f[0].plus(f[1].times(p[0])).plus(f[2].times(p[1])).plus(f[3].times(p[2]))
}

// local returns the coordinates of the point p by Cramer's rule.
func (f bigFrame) local(p bigVec) bigVec {
	way := p.minus(f[0])
	volume := f[1].dot(f[2].cross(f[3]))
	return bigVec{
		quo(way.dot(f[2].cross(f[3])), volume),
		quo(f[1].dot(way.cross(f[3])), volume),
		quo(f[1].dot(f[2].cross(way)), volume),
	}
}

// isOrthogonal reports whether the axes are.
func (f bigFrame) isOrthogonal() bool {
	return f[1].dot(f[2]).Sign() == 0 && f[2].dot(f[3]).Sign() == 0 && f[1].dot(f[3]).Sign() == 0
}
