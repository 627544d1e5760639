package space

import (
	"math"
	"math/big"
	"testing"
)

// Numbers of any size, which the other packages compute with (Rules: no bounds on the way).

// edgy returns a number whose numerator and denominator are near bounds of machine integers.
func (s source) edgy() *big.Rat {
	part := func() *big.Int {
		x := new(big.Int).Lsh(big.NewInt(1), []uint{0, 1, 16, 31, 32, 47, 62, 63, 64, 65, 100}[s.Intn(11)])
		return x.Add(x, big.NewInt(int64(s.Intn(5)-2)))
	}
	num, den := part(), part()
	if den.Sign() == 0 || s.Intn(3) == 0 {
		den.SetInt64(1)
	}
	if s.Intn(2) == 0 {
		num.Neg(num)
	}
	return new(big.Rat).SetFrac(num, den)
}

// numberOf returns the number of a big one.
func numberOf(t *testing.T, x *big.Rat) Number {
	t.Helper()
	text, _ := ratOf(x)
	a, e := ReadNumber(text)
	wantError(t, "ReadNumber", e, 0)
	return a
}

// wantNumber compares a number with a big one, and checks its form.
func wantNumber(t *testing.T, what string, got Number, wanted *big.Rat) {
	t.Helper()
	text, e := got.Write()
	wantRat(t, what, text, e, wanted)
	most := big.NewInt(math.MaxInt64)
	fits := wanted.Num().CmpAbs(most) <= 0 && wanted.Denom().CmpAbs(most) <= 0
	if fits != (got.large == nil) || got.Sign() != wanted.Sign() || got.IsZero() != (wanted.Sign() == 0) {
		t.Errorf("%s: %v has a wrong form", what, wanted)
	}
}

func TestNumbersOfAnySize(t *testing.T) {
	s := newSource(30)
	for range 20000 {
		x, y := s.edgy(), s.edgy()
		a, b := numberOf(t, x), numberOf(t, y)
		wantNumber(t, "a number", a, x)
		wantNumber(t, "Plus", a.Plus(b), add(x, y))
		wantNumber(t, "Minus", a.Minus(b), sub(x, y))
		wantNumber(t, "Minus of near ones", a.Plus(b).Minus(a), y)
		wantNumber(t, "Times", a.Times(b), mul(x, y))
		wantNumber(t, "Negated", a.Negated(), new(big.Rat).Neg(x))
		if y.Sign() != 0 {
			wantNumber(t, "Over", a.Over(b), quo(x, y))
			wantNumber(t, "Over and Times", a.Over(b).Times(b), x)
		}
		if got := a.Compare(b); got != x.Cmp(y) {
			t.Errorf("Compare of %v and %v: got %d", x, y, got)
		}
		if a.Compare(a) != 0 {
			t.Errorf("Compare of %v with itself is not 0", x)
		}
	}
}

func TestRoots(t *testing.T) {
	s := newSource(32)
	for range 5000 {
		x := s.edgy()
		a := numberOf(t, x)
		root, ok := a.Times(a).Root()
		if !ok || root.Sign() < 0 {
			t.Fatalf("Root of the square of %v: got %v, %v", x, root, ok)
		}
		wantNumber(t, "Root", root, new(big.Rat).Abs(x))
		// Twice a square, a third of it and its opposite have no roots but for 0.
		for _, other := range []Number{a.Times(a).Times(Integer(2)), a.Times(a).Times(Integer(-1)), a.Times(a).Over(Integer(3))} {
			if root, ok := other.Root(); ok && x.Sign() != 0 || !root.IsZero() {
				t.Errorf("Root beside the square of %v: got %v, %v", x, root, ok)
			}
		}
	}
}

func TestIntegers(t *testing.T) {
	for _, i := range []int{0, 1, -1, math.MaxInt, math.MinInt, math.MinInt + 1} {
		wantNumber(t, "Integer", Integer(i), frac(int64(i), 1))
	}
	wantNumber(t, "the zero value", Number{}, frac(0, 1))
	wantNumber(t, "the zero value, added", Number{}.Plus(Integer(7)), frac(7, 1))
	if !(Vector{}).IsZero() || (Vector{2: Integer(1)}).IsZero() {
		t.Error("the zero value of a vector is 0, and no other one")
	}
}

func TestReducedHalves(t *testing.T) {
	s := newSource(31)
	for range 2000 {
		h := Half{Vector{numberOf(t, s.edgy()), numberOf(t, s.edgy()), numberOf(t, s.edgy())}, numberOf(t, s.edgy())}
		if h.N.IsZero() {
			continue
		}
		r := h.Reduced()
		// N is the same vector but for a factor above 0, and D has this factor, too.
		if !r.N.Cross(h.N).IsZero() || r.N.Dot(h.N).Sign() <= 0 || r.D.Times(h.N.Dot(h.N)).Compare(h.D.Times(h.N.Dot(r.N))) != 0 {
			t.Errorf("Reduced of %v is %v", h, r)
		}
		common := new(big.Int)
		for _, x := range r.N {
			text, _ := x.text()
			num, _ := new(big.Int).SetString(text, 10)
			if _, den := x.text(); den != "1" {
				t.Errorf("Reduced of %v has the denominator %s", h, den)
			}
			common.GCD(nil, nil, common, num.Abs(num))
		}
		if common.Cmp(big.NewInt(1)) != 0 {
			t.Errorf("Reduced of %v has the divisor %v", h, common)
		}
	}
}
