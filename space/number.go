package space

import (
	"strings"

	"trunnel/api"
)

// number is a rational number of any size: whether it is below 0, its numerator without the sign, and its denominator, which is not 0.
// Both have no common divisor above 1, and 0 is not negative.
// Only texts have limits: what is computed on the way may be as large as it gets.
type number struct {
	negative bool
	num, den natural
}

// integer returns the number of an integer.
func integer(i int) number {
	if i < 0 {
		return number{true, naturalOf(-uint64(i)), naturalOf(1)}
	}
	return number{false, naturalOf(uint64(i)), naturalOf(1)}
}

// ratio returns the number with a sign, a numerator and a denominator other than 0, in lowest terms.
func ratio(negative bool, num, den natural) number {
	if num.isZero() {
		return integer(0)
	}
	if den.isOne() {
		return number{negative, num, den}
	}
	if common := gcd(num, den); !common.isOne() {
		num, _ = num.divide(common)
		den, _ = den.divide(common)
	}
	return number{negative, num, den}
}

// read returns the number of a text, and the error of Check.
func read(a api.Rat) (number, api.Errno) {
	digits, negative := strings.CutPrefix(string(a), "-")
	over, under, split := strings.Cut(digits, "/")
	if !split {
		under = "1"
	}
	switch {
	case !isPlain(over) || negative && over == "0":
		return number{}, api.ErrForm
	case split && (!isPlain(under) || under == "0" || under == "1"):
		return number{}, api.ErrForm
	case len(over) > api.MaxDigits || len(under) > api.MaxDigits:
		return number{}, api.ErrLarge
	}
	x := number{negative, naturalText(over), naturalText(under)}
	if split && !gcd(x.num, x.den).isOne() {
		return number{}, api.ErrForm
	}
	return x, api.OK
}

// isPlain reports whether a text is that of a natural number without zeros in front.
func isPlain(digits string) bool {
	return isDigits(digits) && (digits[0] != '0' || len(digits) == 1)
}

// isDigits reports whether a text has decimal digits, and nothing else.
func isDigits(s string) bool {
	for _, letter := range s {
		if letter < '0' || letter > '9' {
			return false
		}
	}
	return s != ""
}

// write returns the text of a number, or ErrLarge if it has too many digits.
func (a number) write() (api.Rat, api.Errno) {
	text, under := a.num.text(), a.den.text()
	if len(text) > api.MaxDigits || len(under) > api.MaxDigits {
		return "", api.ErrLarge
	}
	if a.negative {
		text = "-" + text
	}
	if !a.den.isOne() {
		text += "/" + under
	}
	return api.Rat(text), api.OK
}

func (a number) isZero() bool { return a.num.isZero() }

// sign returns -1, 0 or 1.
func (a number) sign() int {
	switch {
	case a.negative:
		return -1
	case a.isZero():
		return 0
	}
	return 1
}

func (a number) negated() number {
	return number{!a.negative && !a.isZero(), a.num, a.den}
}

func (a number) plus(b number) number {
	left, right, den := a.num, b.num, a.den
	if a.den.compare(b.den) != 0 {
		left, right, den = left.times(b.den), right.times(a.den), den.times(b.den)
	}
	switch {
	case a.negative == b.negative:
		return ratio(a.negative, left.plus(right), den)
	case left.compare(right) < 0:
		return ratio(b.negative, right.minus(left), den)
	}
	return ratio(a.negative, left.minus(right), den)
}

func (a number) minus(b number) number { return a.plus(b.negated()) }

func (a number) times(b number) number {
	return ratio(a.negative != b.negative, a.num.times(b.num), a.den.times(b.den))
}

// over returns the quotient of a and b, which is not 0.
func (a number) over(b number) number {
	return ratio(a.negative != b.negative, a.num.times(b.den), a.den.times(b.num))
}

// compare returns -1, 0 or 1 if a is less than, equal to, or greater than b.
func (a number) compare(b number) int { return a.minus(b).sign() }

// floor returns the greatest integer that is at most a.
func (a number) floor() number {
	whole, rest := a.num.divide(a.den)
	if a.negative && !rest.isZero() {
		whole = whole.plus(naturalOf(1))
	}
	return ratio(a.negative, whole, naturalOf(1))
}

// total returns the sum of numbers.
func total(numbers ...number) number {
	sum := integer(0)
	for _, x := range numbers {
		sum = sum.plus(x)
	}
	return sum
}
