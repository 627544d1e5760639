package space

// fraction is a rational number of any size: whether it is below 0, its numerator without the sign, and its denominator, which is not 0.
// Both have no common divisor above 1, and 0 is not negative.
type fraction struct {
	negative bool
	num, den natural
}

// zero returns 0.
func zero() fraction { return fraction{false, nil, naturalOf(1)} }

// ratio returns the number with a sign, a numerator and a denominator other than 0, in lowest terms.
func ratio(negative bool, num, den natural) fraction {
	if num.isZero() {
		return zero()
	}
	if den.isOne() {
		return fraction{negative, num, den}
	}
	if common := gcd(num, den); !common.isOne() {
		num, _ = num.divide(common)
		den, _ = den.divide(common)
	}
	return fraction{negative, num, den}
}

// text returns the decimal digits of the numerator with its sign, and of the denominator.
func (a fraction) text() (over, under string) {
	over, under = a.num.text(), a.den.text()
	if a.negative {
		over = "-" + over
	}
	return over, under
}

// plus returns a + b. A divisor that the sum has in common with its denominator is also one of both
// denominators, so there is less to look for than in the sum (Knuth, The Art of Computer Programming, 4.5.1).
func (a fraction) plus(b fraction) fraction {
	common := gcd(a.den, b.den)
	moreA, _ := a.den.divide(common)
	moreB, _ := b.den.divide(common)
	negative, num := sumOfSigned(a.negative, a.num.times(moreB), b.negative, b.num.times(moreA))
	if num.isZero() {
		return zero()
	}
	rest := gcd(num, common)
	num, _ = num.divide(rest)
	common, _ = common.divide(rest)
	return fraction{negative, num, moreA.times(moreB).times(common)}
}

// sumOfSigned returns the sum of two naturals with signs.
func sumOfSigned(negativeA bool, a natural, negativeB bool, b natural) (negative bool, sum natural) {
	switch {
	case negativeA == negativeB:
		return negativeA, a.plus(b)
	case a.compare(b) < 0:
		return negativeB, b.minus(a)
	}
	return negativeA, a.minus(b)
}

// negated returns -a, where a is not 0.
func (a fraction) negated() fraction { return fraction{!a.negative, a.num, a.den} }

func (a fraction) times(b fraction) fraction {
	// What is divided out crosswise is not there to be divided out of the product.
	left, right := ratio(a.negative, a.num, b.den), ratio(b.negative, b.num, a.den)
	if left.num.isZero() || right.num.isZero() {
		return zero()
	}
	return fraction{left.negative != right.negative, left.num.times(right.num), left.den.times(right.den)}
}

// inverse returns 1 / a, where a is not 0.
func (a fraction) inverse() fraction { return fraction{a.negative, a.den, a.num} }

// root returns the square root of a, and whether it is a rational number.
func (a fraction) root() (fraction, bool) {
	num, okNum := a.num.root()
	den, okDen := a.den.root()
	return fraction{false, num, den}, !a.negative && okNum && okDen
}

// compare returns -1, 0 or 1 if a is less than, equal to, or greater than b.
func (a fraction) compare(b fraction) int {
	switch {
	case a.negative && b.negative:
		return b.negated().compare(a.negated())
	case a.negative:
		return -1
	case b.negative:
		return 1
	}
	return a.num.times(b.den).compare(b.num.times(a.den))
}

// floor returns the greatest integer that is at most a.
func (a fraction) floor() fraction {
	whole, rest := a.num.divide(a.den)
	if a.negative && !rest.isZero() {
		whole = whole.plus(naturalOf(1))
	}
	return ratio(a.negative, whole, naturalOf(1))
}
