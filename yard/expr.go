package yard

import (
	"iter"
	"strconv"

	"trunnel/api"
	"trunnel/space"
)

const (
	maxExprs = 64 // expressions in an expression
	maxDepth = 16 // how deep they are nested
)

// What the text of an expression is in the grammar: each of these may stand where one ahead of it is expected.
const (
	aSum = iota
	aProduct
	aSign
	aPrimary
)

// operator is an Op of expressions.
type operator struct {
	op       string
	operands int
	form     int
}

var operators = [...]operator{
	{"number", 0, aPrimary},
	{"name", 0, aPrimary},
	{"neg", 1, aSign},
	{"+", 2, aSum},
	{"-", 2, aSum},
	{"*", 2, aProduct},
	{"/", 2, aProduct},
}

// operatorOf returns the operator of an Op, and whether there is one.
func operatorOf(op string) (operator, bool) {
	for _, o := range operators {
		if o.op == op {
			return o, true
		}
	}
	return operator{}, false
}

// within goes through the expressions in an expression with their depths, each one ahead of those in it.
func (e Expr) within() iter.Seq2[int, Expr] {
	return func(yield func(int, Expr) bool) { e.visit(1, yield) }
}

// visit is within from a depth on. It returns whether it came to the end.
func (e Expr) visit(depth int, yield func(int, Expr) bool) bool {
	if !yield(depth, e) {
		return false
	}
	for _, operand := range e.Args {
		if !operand.visit(depth+1, yield) {
			return false
		}
	}
	return true
}

// CheckExpr returns the first error of an expression, or OK.
func CheckExpr(e Expr) api.Errno {
	count, deepest := 0, 0
	for depth := range e.within() {
		// No further than that: an expression without an end is possible, since slices may contain themselves.
		if count++; count > maxExprs {
			return api.ErrMany
		}
		deepest = max(deepest, depth)
	}
	if deepest > maxDepth {
		return api.ErrLimit
	}
	for _, x := range e.within() {
		if err := x.checkAlone(); err != api.OK {
			return err
		}
	}
	return api.OK
}

// checkAlone returns the error of an expression but for those of the ones in it.
func (e Expr) checkAlone() api.Errno {
	o, ok := operatorOf(e.Op)
	isNumber, isName := e.Op == "number", e.Op == "name"
	switch {
	case !ok:
		return api.ErrKind
	case len(e.Args) != o.operands:
		return api.ErrShape
	case isNumber && (e.Number < 0 || e.Number > api.MaxNumber):
		return api.ErrRange
	case isName && !space.IsName(e.Name):
		return api.ErrName
	case !isNumber && e.Number != 0 || !isName && e.Name != "":
		return api.ErrForm
	}
	return api.OK
}

// PrintExpr returns the text of an expression.
func PrintExpr(e Expr) (string, api.Errno) {
	if err := CheckExpr(e); err != api.OK {
		return "", err
	}
	return e.text(aSum), api.OK
}

// text returns the text of an expression where the grammar expects some form.
func (e Expr) text(expected int) string {
	o, _ := operatorOf(e.Op)
	text := ""
	switch {
	case e.Op == "number":
		text = strconv.Itoa(e.Number)
	case e.Op == "name":
		text = e.Name
	case e.Op == "neg":
		text = "-" + e.Args[0].text(aSign)
	default:
		// Behind the sign the grammar expects more than in front of it, since it associates to the left.
		text = e.Args[0].text(o.form) + e.Op + e.Args[1].text(o.form+1)
	}
	if o.form < expected {
		return "(" + text + ")"
	}
	return text
}

// renamed returns an expression with another name in the place of a name. It shares no memory with it.
func (e Expr) renamed(change func(name string) string) Expr {
	e.Args = mapped(e.Args, func(operand Expr) Expr { return operand.renamed(change) })
	if e.Op == "name" {
		e.Name = change(e.Name)
	}
	return e
}

// mapped returns the list of what a function makes of the elements of a list.
func mapped[T, R any](list []T, of func(T) R) []R {
	var results []R
	for _, x := range list {
		results = append(results, of(x))
	}
	return results
}

// meanings are the values of names.
type meanings map[string]space.Number

// Value returns the value of an expression.
func Value(e Expr, names []string, values []api.Rat) (api.Rat, api.Errno) {
	if err := CheckExpr(e); err != api.OK {
		return "", err
	}
	known, err := readMeanings(names, values)
	if err != api.OK {
		return "", err
	}
	value, err := known.evaluate(e)
	if err != api.OK {
		return "", err
	}
	return value.Write()
}

// readMeanings returns names with their values, and the first error of both.
func readMeanings(names []string, values []api.Rat) (meanings, api.Errno) {
	if len(names) != len(values) {
		return nil, api.ErrShape
	}
	if len(names) > api.MaxList {
		return nil, api.ErrMany
	}
	known := meanings{}
	for i, name := range names {
		if !space.IsName(name) {
			return nil, api.ErrName
		}
		if _, twice := known[name]; twice {
			return nil, api.ErrTwice
		}
		value, err := space.ReadNumber(values[i])
		if err != api.OK {
			return nil, err
		}
		known[name] = value
	}
	return known, api.OK
}

// evaluate returns the value of an expression, which may have any size, or the first error on the way to it.
func (m meanings) evaluate(e Expr) (space.Number, api.Errno) {
	switch e.Op {
	case "number":
		return space.Integer(e.Number), api.OK
	case "name":
		value, ok := m[e.Name]
		if !ok {
			return space.Number{}, api.ErrUnknown
		}
		return value, api.OK
	}
	var operands []space.Number
	for _, operand := range e.Args {
		value, err := m.evaluate(operand)
		if err != api.OK {
			return space.Number{}, err
		}
		operands = append(operands, value)
	}
	return compute(e.Op, operands)
}

// compute returns what an operator makes of its operands.
func compute(op string, operands []space.Number) (space.Number, api.Errno) {
	left, right := operands[0], operands[len(operands)-1]
	switch {
	case op == "neg":
		return left.Negated(), api.OK
	case op == "+":
		return left.Plus(right), api.OK
	case op == "-":
		return left.Minus(right), api.OK
	case op == "*":
		return left.Times(right), api.OK
	case right.IsZero():
		return space.Number{}, api.ErrZero
	}
	return left.Over(right), api.OK
}

// limited is evaluate for a value that must not have too many digits.
func (m meanings) limited(e Expr) (space.Number, api.Errno) {
	value, err := m.evaluate(e)
	if err != api.OK {
		return space.Number{}, err
	}
	if _, err = value.Write(); err != api.OK {
		return space.Number{}, err
	}
	return value, api.OK
}
