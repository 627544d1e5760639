package space

import (
	"cmp"
	"math"
	"math/bits"
	"strconv"
	"strings"

	"trunnel/api"
)

// Number is a rational number of any size. Only texts have limits: what is computed on the way
// may be as large as it gets, in this package and in those that build on it. The zero value is 0.
//
// Most numbers are small: then num is the numerator, and more is the denominator less 1, both are
// in lowest terms and none of them is the least machine integer. All others are large.
type Number struct {
	num, more int64
	large     *fraction
}

// Integer returns the number of an integer.
func Integer(i int) Number {
	if i == math.MinInt {
		return fraction{true, naturalOf(1 << 63), naturalOf(1)}.number()
	}
	return Number{num: int64(i)}
}

// small returns the number of a numerator and a denominator in lowest terms.
func small(num, den int64) Number { return Number{num: num, more: den - 1} }

// lowest returns the number of a numerator and a denominator above 0.
func lowest(num, den int64) Number {
	if den == 1 {
		return Number{num: num}
	}
	common := int64(gcdWords(uint64(den), magnitude(num)))
	return small(num/common, den/common)
}

// number returns the number of a fraction.
func (a fraction) number() Number {
	if !a.num.isMachine() || !a.den.isMachine() {
		large := a
		return Number{large: &large}
	}
	num := int64(a.num.low())
	if a.negative {
		num = -num
	}
	return small(num, int64(a.den.low()))
}

// isMachine reports whether a natural number is a machine integer with a sign.
func (a natural) isMachine() bool { return len(a) <= 1 && a.low() <= math.MaxInt64 }

// fraction returns a number as a fraction.
func (a Number) fraction() fraction {
	if a.large != nil {
		return *a.large
	}
	return fraction{a.num < 0, naturalOf(magnitude(a.num)), naturalOf(uint64(a.den()))}
}

// den returns the denominator of a small number.
func (a Number) den() int64 { return a.more + 1 }

// areSmall reports whether two numbers are.
func areSmall(a, b Number) bool { return a.large == nil && b.large == nil }

// ReadNumber returns the number of a text, and the error of Check.
func ReadNumber(a api.Rat) (Number, api.Errno) {
	digits, negative := strings.CutPrefix(string(a), "-")
	over, under, split := strings.Cut(digits, "/")
	if !split {
		under = "1"
	}
	switch {
	case !isPlain(over) || negative && over == "0":
		return Number{}, api.ErrForm
	case split && (!isPlain(under) || under == "0" || under == "1"):
		return Number{}, api.ErrForm
	case len(over) > api.MaxDigits || len(under) > api.MaxDigits:
		return Number{}, api.ErrLarge
	}
	num, den := naturalText(over), naturalText(under)
	if split && !gcd(num, den).isOne() {
		return Number{}, api.ErrForm
	}
	return fraction{negative, num, den}.number(), api.OK
}

// isPlain reports whether a text is that of a natural number without zeros in front.
func isPlain(digits string) bool {
	return isDigits(digits) && (digits[0] != '0' || len(digits) == 1)
}

// isDigits reports whether a text has decimal digits, and nothing else.
func isDigits(s string) bool {
	for _, letter := range s {
		if letter < '0' || letter > '9' {
			return false
		}
	}
	return s != ""
}

// Write returns the text of a number, or ErrLarge if it has too many digits.
func (a Number) Write() (api.Rat, api.Errno) {
	over, under := a.text()
	if len(strings.TrimPrefix(over, "-")) > api.MaxDigits || len(under) > api.MaxDigits {
		return "", api.ErrLarge
	}
	return api.Rat(joined(over, under)), api.OK
}

// Text returns the text of a number of any size. Equal numbers have equal texts.
func (a Number) Text() string { return joined(a.text()) }

// joined returns the text of a number with the digits of its numerator and its denominator.
func joined(over, under string) string {
	if under == "1" {
		return over
	}
	return over + "/" + under
}

// text returns the decimal digits of the numerator with its sign, and of the denominator.
func (a Number) text() (over, under string) {
	if a.large != nil {
		return a.large.text()
	}
	return strconv.FormatInt(a.num, 10), strconv.FormatInt(a.den(), 10)
}

// IsZero reports whether a is 0.
func (a Number) IsZero() bool { return a.large == nil && a.num == 0 }

// Sign returns -1, 0 or 1.
func (a Number) Sign() int {
	switch {
	case a.large == nil:
		return cmp.Compare(a.num, 0)
	case a.large.negative:
		return -1
	}
	return 1
}

// Negated returns -a.
func (a Number) Negated() Number {
	if a.large == nil {
		return Number{num: -a.num, more: a.more}
	}
	return a.large.negated().number()
}

// Plus returns a + b.
func (a Number) Plus(b Number) Number {
	if areSmall(a, b) {
		if sum, ok := a.plusSmall(b); ok {
			return sum
		}
	}
	return a.fraction().plus(b.fraction()).number()
}

// plusSmall returns the sum of small numbers, unless it takes large ones.
func (a Number) plusSmall(b Number) (Number, bool) {
	if a.more == b.more {
		sum, ok := sumOf(a.num, b.num)
		return lowest(sum, a.den()), ok
	}
	left, okLeft := productOf(a.num, b.den())
	right, okRight := productOf(b.num, a.den())
	den, okDen := productOf(a.den(), b.den())
	if !okLeft || !okRight || !okDen {
		return Number{}, false
	}
	sum, ok := sumOf(left, right)
	return lowest(sum, den), ok
}

// Minus returns a - b.
func (a Number) Minus(b Number) Number { return a.Plus(b.Negated()) }

// Times returns a b.
func (a Number) Times(b Number) Number {
	if areSmall(a, b) {
		if product, ok := a.timesSmall(b); ok {
			return product
		}
	}
	return a.fraction().times(b.fraction()).number()
}

// timesSmall returns the product of small numbers, unless it takes large ones.
func (a Number) timesSmall(b Number) (Number, bool) {
	// What is divided out crosswise is not there to be divided out of the product.
	left, right := lowest(a.num, b.den()), lowest(b.num, a.den())
	num, okNum := productOf(left.num, right.num)
	den, okDen := productOf(left.den(), right.den())
	return small(num, den), okNum && okDen
}

// Over returns a / b, where b is not 0.
func (a Number) Over(b Number) Number {
	if b.large != nil {
		return a.Times(b.large.inverse().number())
	}
	if b.num < 0 {
		return a.Times(small(-b.den(), -b.num))
	}
	return a.Times(small(b.den(), b.num))
}

// Root returns the square root of a, and whether it is a rational number.
func (a Number) Root() (Number, bool) {
	root, ok := a.fraction().root()
	if !ok {
		return Number{}, false
	}
	return root.number(), true
}

// Compare returns -1, 0 or 1 if a is less than, equal to, or greater than b.
func (a Number) Compare(b Number) int {
	switch {
	case !areSmall(a, b):
		return a.fraction().compare(b.fraction())
	case a.more == b.more || a.Sign() != b.Sign():
		return cmp.Compare(a.num, b.num)
	}
	highA, lowA := bits.Mul64(magnitude(a.num), uint64(b.den()))
	highB, lowB := bits.Mul64(magnitude(b.num), uint64(a.den()))
	return a.Sign() * cmp.Or(cmp.Compare(highA, highB), cmp.Compare(lowA, lowB))
}

// floor returns the greatest integer that is at most a.
func (a Number) floor() Number { return a.fraction().floor().number() }

// total returns the sum of numbers.
func total(numbers ...Number) Number {
	var sum Number
	for _, x := range numbers {
		sum = sum.Plus(x)
	}
	return sum
}

// magnitude returns the absolute value of a.
func magnitude(a int64) uint64 {
	if a < 0 {
		return -uint64(a)
	}
	return uint64(a)
}

// sumOf returns a + b, and whether it is a machine integer other than the least one.
func sumOf(a, b int64) (int64, bool) {
	sum := a + b
	overflow := (a < 0) == (b < 0) && (sum < 0) != (a < 0)
	return sum, !overflow && sum != math.MinInt64
}

// productOf returns a b, and whether it is a machine integer other than the least one.
func productOf(a, b int64) (int64, bool) {
	high, low := bits.Mul64(magnitude(a), magnitude(b))
	if high != 0 || low > math.MaxInt64 {
		return 0, false
	}
	if (a < 0) != (b < 0) {
		return -int64(low), true
	}
	return int64(low), true
}
