package space

import (
	"strings"

	"trunnel/api"
)

// Check returns the first error of a number, or OK.
func Check(a api.Rat) api.Errno {
	_, e := ReadNumber(a)
	return e
}

// Of returns num / den.
func Of(num, den int) (api.Rat, api.Errno) {
	if den == 0 {
		return "", api.ErrZero
	}
	return Integer(num).Over(Integer(den)).Write()
}

// Parse returns the number that a text such as 3, -6/4 or 0.25 describes.
func Parse(s string) (api.Rat, api.Errno) {
	if len(s) > api.MaxText {
		return "", api.ErrLong
	}
	text, negative := strings.CutPrefix(s, "-")
	over, under, e := parts(text)
	if e != api.OK {
		return "", e
	}
	return ratio(negative, naturalText(over), naturalText(under)).number().Write()
}

// parts returns the digits of the numerator and of the denominator that a text without a sign describes.
func parts(text string) (over, under string, e api.Errno) {
	at := strings.IndexAny(text, "/.")
	if at < 0 {
		text, at = text+"/1", len(text)
	}
	front, back := text[:at], text[at+1:]
	switch {
	case !isDigits(front) || !isDigits(back):
		return "", "", api.ErrSyntax
	case text[at] == '.':
		return front + back, "1" + strings.Repeat("0", len(back)), api.OK
	case strings.Trim(back, "0") == "":
		return "", "", api.ErrZero
	}
	return front, back, api.OK
}

// Add returns the sum.
func Add(a, b api.Rat) (api.Rat, api.Errno) { return compute(Number.Plus, a, b) }

// Sub returns the difference.
func Sub(a, b api.Rat) (api.Rat, api.Errno) { return compute(Number.Minus, a, b) }

// Mul returns the product.
func Mul(a, b api.Rat) (api.Rat, api.Errno) { return compute(Number.Times, a, b) }

// compute returns what an operation makes of two numbers.
func compute(operation func(a, b Number) Number, a, b api.Rat) (api.Rat, api.Errno) {
	x, y, e := readBoth(ReadNumber, a, ReadNumber, b)
	if e != api.OK {
		return "", e
	}
	return operation(x, y).Write()
}

// Div returns the quotient.
func Div(a, b api.Rat) (api.Rat, api.Errno) {
	x, y, e := readBoth(ReadNumber, a, ReadNumber, b)
	if e != api.OK {
		return "", e
	}
	if y.IsZero() {
		return "", api.ErrZero
	}
	return x.Over(y).Write()
}

// Compare returns -1, 0 or 1.
func Compare(a, b api.Rat) (int, api.Errno) {
	x, y, e := readBoth(ReadNumber, a, ReadNumber, b)
	if e != api.OK {
		return 0, e
	}
	return x.Compare(y), api.OK
}

// Floor returns the greatest integer that is at most a.
func Floor(a api.Rat) (api.Rat, api.Errno) {
	x, e := ReadNumber(a)
	if e != api.OK {
		return "", e
	}
	return x.floor().Write()
}
