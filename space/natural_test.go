package space

import (
	"math/big"
	"testing"
)

// word returns a word with many bits alike: such words show where a carry is lost or a guess is wrong.
func (s source) word() uint64 {
	switch s.Intn(6) {
	case 0:
		return 0
	case 1:
		return ^uint64(0)
	case 2:
		return 1 << s.Intn(64)
	case 3:
		return ^uint64(0) << s.Intn(64)
	case 4:
		return uint64(s.Intn(3))
	}
	return s.Uint64()
}

func (s source) natural(most int) natural {
	words := make([]uint64, s.Intn(most+1))
	for i := range words {
		words[i] = s.word()
	}
	return trimmed(words)
}

func (a natural) big() *big.Int {
	x := new(big.Int)
	for i := len(a) - 1; i >= 0; i-- {
		x.Lsh(x, 64)
		x.Or(x, new(big.Int).SetUint64(a[i]))
	}
	return x
}

func wantNatural(t *testing.T, what string, a, b, got natural, wanted *big.Int) {
	t.Helper()
	if got.big().Cmp(wanted) != 0 || len(got) > 0 && got[len(got)-1] == 0 {
		t.Errorf("%s of %v and %v: got %v, want %v", what, a.big(), b.big(), got, wanted)
	}
}

func TestNaturals(t *testing.T) {
	s := newSource(1)
	for range 20000 {
		a, b := s.natural(6), s.natural(6)
		x, y := a.big(), b.big()
		wantNatural(t, "sum", a, b, a.plus(b), new(big.Int).Add(x, y))
		wantNatural(t, "product", a, b, a.times(b), new(big.Int).Mul(x, y))
		if got := a.compare(b); got != x.Cmp(y) {
			t.Errorf("compare of %v and %v: got %d", x, y, got)
		}
		if a.compare(b) >= 0 {
			wantNatural(t, "difference", a, b, a.minus(b), new(big.Int).Sub(x, y))
		}
		if got := a.text(); got != x.String() {
			t.Errorf("text of %v: got %s", x, got)
		}
		wantNatural(t, "reading", a, a, naturalText(x.String()), x)
		if !b.isZero() {
			wantDivision(t, a, b)
			wantNatural(t, "gcd", a, b, gcd(a, b), new(big.Int).GCD(nil, nil, x, y))
		}
	}
}

// wantDivision tests a division, also of numbers near a multiple, where the words of the quotient are hardest to guess.
func wantDivision(t *testing.T, a, b natural) {
	t.Helper()
	product := a.times(b)
	for _, c := range []natural{a, product, product.plus(b).minus(naturalOf(1)), product.plus(a)} {
		quotient, rest := c.divide(b)
		q, r := new(big.Int).QuoRem(c.big(), b.big(), new(big.Int))
		wantNatural(t, "quotient", c, b, quotient, q)
		wantNatural(t, "rest", c, b, rest, r)
	}
}

// TestGcd has large numbers with a large common divisor, near each other, and far from each other.
func TestGcd(t *testing.T) {
	s := newSource(2)
	for range 2000 {
		a, b, c := s.natural(20), s.natural(20), s.natural(10)
		for _, pair := range [][2]natural{{a.times(c), b.times(c)}, {a.plus(c), a}, {a.times(b), b}, {a, c}, {a, nil}, {nil, b}} {
			x, y := pair[0], pair[1]
			if !x.isZero() || !y.isZero() {
				wantNatural(t, "gcd", x, y, gcd(x, y), new(big.Int).GCD(nil, nil, x.big(), y.big()))
			}
		}
	}
	// Neighbours in the series of Fibonacci take the most steps.
	low, high := naturalOf(1), naturalOf(1)
	for range 1500 {
		low, high = high, low.plus(high)
		if !gcd(high, low).isOne() || !gcd(low, high).isOne() {
			t.Fatalf("gcd of %v and %v is not 1", low.big(), high.big())
		}
	}
}

func TestRootOfNaturals(t *testing.T) {
	s := newSource(3)
	for i := range 3000 {
		a := s.natural(8)
		if i < 300 {
			a = naturalOf(uint64(i))
		}
		square := a.times(a)
		wantRoot(t, square)
		wantRoot(t, square.plus(naturalOf(1)))
		wantRoot(t, square.plus(a))
		if !a.isZero() {
			wantRoot(t, square.minus(naturalOf(1)))
			wantRoot(t, a)
		}
	}
}

// wantRoot compares the root of a natural with that of package big, if it has one.
func wantRoot(t *testing.T, a natural) {
	t.Helper()
	root, ok := a.root()
	x := new(big.Int).Sqrt(a.big())
	if whole := new(big.Int).Mul(x, x).Cmp(a.big()) == 0; ok != whole {
		t.Errorf("root of %v: got %v", a.big(), ok)
	} else if ok {
		wantNatural(t, "root", a, a, root, x)
	}
}
