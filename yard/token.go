package yard

import (
	"strconv"
	"strings"

	"trunnel/api"
	"trunnel/space"
)

// ReadExpr returns the expression with a text, or the place of its first error.
func ReadExpr(s string) (Expr, int, api.Errno) {
	if len(s) > api.MaxText {
		return Expr{}, 0, api.ErrLong
	}
	r := reader{text: s, starts: starts(s)}
	e, ok := r.sum()
	if !ok || r.token() != "" {
		return Expr{}, r.starts[r.next], api.ErrSyntax
	}
	if err := CheckExpr(e); err != api.OK {
		return Expr{}, 0, err
	}
	return e, 0, api.OK
}

// starts returns the places where the tokens of a text begin, the end of the text included.
// Every byte that belongs to no token is like one of its own, which the grammar permits nowhere.
func starts(s string) []int {
	var places []int
	inName, inNumber := false, false
	for at, letter := range s {
		if inName && (isLetter(letter) || isDigit(letter) || letter == '_') || inNumber && isDigit(letter) {
			continue
		}
		places = append(places, at)
		inName, inNumber = isLetter(letter), isDigit(letter)
	}
	return append(places, len(s))
}

func isLetter(r rune) bool { return 'a' <= r && r <= 'z' || 'A' <= r && r <= 'Z' }

func isDigit(r rune) bool { return '0' <= r && r <= '9' }

// isWhole reports whether a text is an integer of at most 9 decimal digits without zeros in front.
func isWhole(s string) bool {
	if s == "" || len(s) > 9 || s[0] == '0' && s != "0" {
		return false
	}
	return strings.TrimLeft(s, "0123456789") == ""
}

// reader reads an expression. What it reads returns false at the first token that the grammar does not permit,
// which is then the next one.
type reader struct {
	text   string
	starts []int
	next   int
}

// token returns the next token, which is empty at the end of the text.
func (r *reader) token() string {
	if r.next == len(r.starts)-1 {
		return ""
	}
	return r.text[r.starts[r.next]:r.starts[r.next+1]]
}

// take takes the next token, if it is one of some signs.
func (r *reader) take(signs string) (string, bool) {
	token := r.token()
	if token == "" || !strings.Contains(signs, token) {
		return "", false
	}
	r.next++
	return token, true
}

func (r *reader) sum() (Expr, bool) { return r.chain("+-", r.product) }

func (r *reader) product() (Expr, bool) { return r.chain("*/", r.sign) }

// chain reads operands with signs between them.
func (r *reader) chain(signs string, operand func() (Expr, bool)) (Expr, bool) {
	left, ok := operand()
	for ok {
		sign, isMore := r.take(signs)
		if !isMore {
			return left, true
		}
		var right Expr
		right, ok = operand()
		left = Expr{Op: sign, Args: []Expr{left, right}}
	}
	return Expr{}, false
}

func (r *reader) sign() (Expr, bool) {
	if _, isNegative := r.take("-"); !isNegative {
		return r.primary()
	}
	operand, ok := r.sign()
	return Expr{Op: "neg", Args: []Expr{operand}}, ok
}

func (r *reader) primary() (Expr, bool) {
	if _, ok := r.take("("); ok {
		inner, ok := r.sum()
		if !ok {
			return Expr{}, false
		}
		_, ok = r.take(")")
		return inner, ok
	}
	token := r.token()
	switch {
	case isWhole(token):
		r.next++
		return whole(token), true
	case space.IsName(token):
		r.next++
		return Expr{Op: "name", Name: token}, true
	}
	return Expr{}, false
}

// whole returns the expression of an integer, of the greatest one of the machine if that is too large for it.
func whole(digits string) Expr {
	number, _ := strconv.Atoi(digits)
	return Expr{Op: "number", Number: number}
}
