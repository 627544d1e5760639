package yard_test

import (
	"math/big"
	"slices"
	"strconv"
	"strings"
	"testing"

	"trunnel/api"
	"trunnel/yard"
)

// P10.1

// wrongExprs returns expressions with their errors.
func wrongExprs() []struct {
	what string
	e    yard.Expr
	err  api.Errno
} {
	one := number(1)
	full := wide(63)
	return []struct {
		what string
		e    yard.Expr
		err  api.Errno
	}{
		{"nothing", yard.Expr{}, api.ErrKind},
		{"an Op in capital letters", yard.Expr{Op: "Number"}, api.ErrKind},
		{"an Op that is a power", op("^", one, one), api.ErrKind},
		{"an Op without the number of operands", yard.Expr{Op: "x", Number: -1, Name: "1"}, api.ErrKind},
		{"a number with an operand", op("number", one), api.ErrShape},
		{"a name with an operand", yard.Expr{Op: "name", Name: "a", Args: []yard.Expr{one}}, api.ErrShape},
		{"neg of nothing", op("neg"), api.ErrShape},
		{"neg of two", op("neg", one, one), api.ErrShape},
		{"a sum of one", op("+", one), api.ErrShape},
		{"a difference of three", op("-", one, one, one), api.ErrShape},
		{"a product of nothing", op("*"), api.ErrShape},
		{"a quotient of one", op("/", one), api.ErrShape},
		{"a wrong shape ahead of a wrong operand", op("+", yard.Expr{}), api.ErrShape},
		{"a wrong shape ahead of a wrong name", yard.Expr{Op: "name", Name: "1", Args: []yard.Expr{one}}, api.ErrShape},
		{"a negative number", number(-1), api.ErrRange},
		{"a number above MaxNumber", number(api.MaxNumber + 1), api.ErrRange},
		{"a wrong number with a name", yard.Expr{Op: "number", Number: -1, Name: "a"}, api.ErrRange},
		{"a name that is empty", name(""), api.ErrName},
		{"a name that is none", name("1a"), api.ErrName},
		{"a name of 25 bytes", name(long(25)), api.ErrName},
		{"a wrong name with a number", yard.Expr{Op: "name", Number: 1, Name: "_a"}, api.ErrName},
		{"a number with a name", yard.Expr{Op: "number", Name: "a"}, api.ErrForm},
		{"a name with a number", yard.Expr{Op: "name", Number: 1, Name: "a"}, api.ErrForm},
		{"neg with a number", yard.Expr{Op: "neg", Number: 1, Args: []yard.Expr{one}}, api.ErrForm},
		{"a sum with a name", yard.Expr{Op: "+", Name: "a", Args: []yard.Expr{one, one}}, api.ErrForm},
		{"a wrong form ahead of a wrong operand", yard.Expr{Op: "neg", Number: 1, Args: []yard.Expr{{}}}, api.ErrForm},
		{"the left one of two wrong operands", op("+", number(-1), name("")), api.ErrRange},
		{"an operand of the left one ahead of the right one", op("+", op("neg", name("")), number(-1)), api.ErrName},
		{"the right operand", op("+", op("neg", one), op("x")), api.ErrKind},
		{"65 expressions", op("neg", op("neg", full)), api.ErrMany},
		{"65 expressions, all of them wrong", op("", slices.Repeat([]yard.Expr{{}}, 64)...), api.ErrMany},
		{"65 expressions, nested deep", op("+", chain(20), wide(45)), api.ErrMany},
		{"65 levels", chain(65), api.ErrMany},
		{"64 levels", chain(64), api.ErrLimit},
		{"17 levels", chain(17), api.ErrLimit},
		{"17 levels of what is wrong", op("+", number(-1), chain(16)), api.ErrLimit},
		{"17 levels below a number", yard.Expr{Op: "number", Args: []yard.Expr{chain(16)}}, api.ErrLimit},
		{"an endless expression", endless(), api.ErrMany},
		{"a sum of endless ones", op("+", one, endless()), api.ErrMany},
	}
}

func TestErrorsOfExpressions(t *testing.T) {
	for _, row := range wrongExprs() {
		wantError(t, "CheckExpr of "+row.what, yard.CheckExpr(row.e), row.err)
		text, e := yard.PrintExpr(row.e)
		want(t, "PrintExpr of "+row.what, text, e, "", row.err)
		value, e := yard.Value(row.e, []string{"1"}, nil)
		want(t, "Value of "+row.what, value, e, "", row.err)
	}
}

func TestExpressionsWithoutErrors(t *testing.T) {
	for what, e := range map[string]yard.Expr{
		"0": number(0), "MaxNumber": number(api.MaxNumber), "a name of 24 bytes": name(long(24)), "a name with digits": name("a_1"),
		"63 expressions": wide(63), "64 expressions": op("neg", wide(63)), "16 levels": chain(16), "a nil list": op("neg", yard.Expr{Op: "number", Args: []yard.Expr{}}),
	} {
		wantError(t, "CheckExpr of "+what, yard.CheckExpr(e), api.OK)
	}
}

func TestPrintedExpressions(t *testing.T) {
	a, b, c := name("a"), name("b"), name("c")
	for text, e := range map[string]yard.Expr{
		"0":             number(0),
		"999999999":     number(999999999),
		"a+2*(b-1)":     op("+", a, op("*", number(2), op("-", b, number(1)))),
		"-a-b":          op("-", op("neg", a), b),
		"a-(b-1)":       op("-", a, op("-", b, number(1))),
		"a-b-1":         op("-", op("-", a, b), number(1)),
		"a+(b+c)":       op("+", a, op("+", b, c)),
		"a+b-c":         op("-", op("+", a, b), c),
		"a-(b+c)":       op("-", a, op("+", b, c)),
		"a*(b*c)":       op("*", a, op("*", b, c)),
		"a*b*c":         op("*", op("*", a, b), c),
		"a/(b*c)":       op("/", a, op("*", b, c)),
		"a/b*c":         op("*", op("/", a, b), c),
		"(a+b)*c":       op("*", op("+", a, b), c),
		"a*(b+c)":       op("*", a, op("+", b, c)),
		"a*b+c":         op("+", op("*", a, b), c),
		"a+b/c":         op("+", a, op("/", b, c)),
		"--a":           op("neg", op("neg", a)),
		"-(a+b)":        op("neg", op("+", a, b)),
		"-(a*b)":        op("neg", op("*", a, b)),
		"-a*b":          op("*", op("neg", a), b),
		"a*-b":          op("*", a, op("neg", b)),
		"a--b":          op("-", a, op("neg", b)),
		"a---b":         op("-", a, op("neg", op("neg", b))),
		"a/-(b/c)":      op("/", a, op("neg", op("/", b, c))),
		"-(-a+b)":       op("neg", op("+", op("neg", a), b)),
		"(-a-b)*-(c-a)": op("*", op("-", op("neg", a), b), op("neg", op("-", c, a))),
	} {
		got, e1 := yard.PrintExpr(e)
		want(t, "PrintExpr", got, e1, text, api.OK)
		back, at, e2 := yard.ReadExpr(text)
		wantAt(t, "ReadExpr of "+text, back, at, e2, e, 0, api.OK)
	}
}

// within returns how many expressions there are in one, and how deep they are nested.
func within(e yard.Expr) (count, depth int) {
	count = 1
	for _, operand := range e.Args {
		n, d := within(operand)
		count, depth = count+n, max(depth, d)
	}
	return count, depth + 1
}

// parentheses returns the places of the pairs of parentheses of a text.
func parentheses(text string) [][2]int {
	var open []int
	var pairs [][2]int
	for at, letter := range text {
		switch letter {
		case '(':
			open = append(open, at)
		case ')':
			pairs = append(pairs, [2]int{open[len(open)-1], at})
			open = open[:len(open)-1]
		}
	}
	return pairs
}

func TestPrintedExpressionsAreReadAndHaveNoOtherParentheses(t *testing.T) {
	s := newSource(1001)
	for range 3000 {
		e := s.expr(s.from(1, 6), "a", "b2")
		if count, _ := within(e); count > 64 {
			continue
		}
		text := sure(yard.PrintExpr(e))
		back, at, err := yard.ReadExpr(text)
		wantAt(t, "ReadExpr of "+text, back, at, err, e, 0, api.OK)
		for _, pair := range parentheses(text) {
			less := text[:pair[0]] + text[pair[0]+1:pair[1]] + text[pair[1]+1:]
			if other, _, err := yard.ReadExpr(less); err == api.OK && sure(yard.PrintExpr(other)) == text {
				t.Errorf("%s: is the same as %s", text, less)
			}
		}
	}
}

// full returns the text of an expression with parentheses around everything, often twice.
func full(s source, e yard.Expr) string {
	text := ""
	switch e.Op {
	case "number":
		text = strconv.Itoa(e.Number)
	case "name":
		text = e.Name
	case "neg":
		text = "-" + full(s, e.Args[0])
	default:
		text = full(s, e.Args[0]) + e.Op + full(s, e.Args[1])
	}
	count := s.from(1, 2)
	return strings.Repeat("(", count) + text + strings.Repeat(")", count)
}

func TestExpressionsWithParenthesesAreRead(t *testing.T) {
	s := newSource(1002)
	for range 1000 {
		e := s.expr(s.from(1, 6), "x", "Y_")
		if count, _ := within(e); count > 64 {
			continue
		}
		text := full(s, e)
		back, at, err := yard.ReadExpr(text)
		wantAt(t, "ReadExpr of "+text, back, at, err, e, 0, api.OK)
	}
}

func TestTextsThatAreNoExpressions(t *testing.T) {
	for text, at := range map[string]int{
		"a+": 2, "a b": 1, "02": 0, "": 0, "(a": 2, "a)": 1, "1000000000": 0, "a*/b": 2, "_a": 0, "a^2": 1,
		" a": 0, "a ": 1, "2a": 1, "00": 0, "a+01": 2, "a+b)": 3, "()": 1, "(": 1, ")": 0, "-": 1, "--": 2, "+a": 0, "a+*b": 2,
		"a-*b": 2, "a(b)": 1, "(a)(b)": 3, "(a)b": 3, "1.5": 1, "a\n": 1, "\na": 0, "a,b": 1, "ä": 0, "aä": 1, "a\x80": 1,
		"a+\xffb": 2, "((a)": 4, "(a+b": 4, "(a+)": 3, "a+(b": 4, "1_": 1, long(25): 0, "a+" + long(25): 2, "a+0b": 3, "01a": 0,
		"a b ^": 1, "a^ b": 1, "a-": 2, "a/": 2, "1234567890+": 0, "1+\x00": 2, "a+٣": 2,
	} {
		e, place, err := yard.ReadExpr(text)
		wantAt(t, "ReadExpr of "+text, e, place, err, yard.Expr{}, at, api.ErrSyntax)
	}
}

// firstWrong returns the place of the first token of a text that may not stand there, or -1: at each place there has to
// be an operand, with signs and parentheses in front, or what may stand behind one.
func firstWrong(text string) int {
	open, isOperand := 0, true
	for at := 0; at < len(text); {
		rest := text[at:]
		end := len(rest) - len(strings.TrimLeft(rest, "0123456789"))
		if letters := "abcdefghijklmnopqrstuvwxyzABCDEFGHIJKLMNOPQRSTUVWXYZ"; strings.Contains(letters, rest[:1]) {
			end = len(rest) - len(strings.TrimLeft(rest, letters+"0123456789_"))
		}
		token := rest[:max(end, 1)]
		switch {
		case end > 0 && isOperand && (token[0] > '9' && len(token) <= 24 || token == "0" || token[0] != '0' && len(token) <= 9):
			isOperand = false
		case token == "(" && isOperand:
			open++
		case token == "-" && isOperand:
		case token == ")" && !isOperand && open > 0:
			open--
		case strings.Contains("+-*/", token) && !isOperand:
			isOperand = true
		default:
			return at
		}
		at += len(token)
	}
	if isOperand || open > 0 {
		return len(text)
	}
	return -1
}

func TestPlacesOfSyntaxErrors(t *testing.T) {
	s := newSource(1003)
	pieces := []string{"a", "Zz_9", "_", "0", "7", "10", "+", "-", "*", "/", "(", ")", "(", ")", "a", "1", "-", "123456789", long(12), " ", ".", "é", "\x80"}
	good := 0
	for range 20000 {
		text := ""
		for range s.from(0, 8) {
			piece := pieces[s.Intn(len(pieces))]
			if s.Intn(3) > 0 { // a token that may stand there, if one is found
				for range 20 {
					if at := firstWrong(text + piece); at < 0 || at == len(text)+len(piece) {
						break
					}
					piece = pieces[s.Intn(len(pieces))]
				}
			}
			text += piece
		}
		e, at, err := yard.ReadExpr(text)
		wrong := firstWrong(text)
		if wrong < 0 {
			good++
			wantError(t, "ReadExpr of "+text, err, api.OK)
			continue
		}
		wantAt(t, "ReadExpr of "+text, e, at, err, yard.Expr{}, wrong, api.ErrSyntax)
	}
	if good < 1000 {
		t.Errorf("only %d texts are expressions", good)
	}
}

func TestLimitsOfTexts(t *testing.T) {
	deep := strings.Repeat("(", 2047) + "12" + strings.Repeat(")", 2047)
	for _, row := range []struct {
		what, text string
		at         int
		err        api.Errno
	}{
		{"4096 bytes", deep, 0, api.OK},
		{"4097 bytes", deep + ")", 0, api.ErrLong},
		{"4097 blanks", strings.Repeat(" ", 4097), 0, api.ErrLong},
		{"an open end", strings.Repeat("(", 4096), 4096, api.ErrSyntax},
		{"4096 signs", strings.Repeat("-", 4096), 4096, api.ErrSyntax},
		{"16 levels", strings.Repeat("-", 15) + "1", 0, api.OK},
		{"17 levels", strings.Repeat("-", 16) + "1", 0, api.ErrLimit},
		{"a sum of 16", strings.Repeat("1+", 15) + "1", 0, api.OK},
		{"a sum of 17", strings.Repeat("1+", 16) + "1", 0, api.ErrLimit},
		{"65 levels", strings.Repeat("-", 64) + "1", 0, api.ErrMany},
		{"65 expressions", sure(yard.PrintExpr(op("neg", wide(63)))) + "+1", 0, api.ErrMany},
		{"4095 signs", strings.Repeat("-", 4095) + "1", 0, api.ErrMany},
		{"65 expressions, and a wrong token", strings.Repeat("-", 64) + "1?", 65, api.ErrSyntax},
		{"a name of 24 bytes", long(24), 0, api.OK},
		{"a number of 9 digits", "999999999", 0, api.OK},
	} {
		e, at, err := yard.ReadExpr(row.text)
		if row.err != api.OK {
			wantAt(t, "ReadExpr of "+row.what, e, at, err, yard.Expr{}, row.at, row.err)
			continue
		}
		wantError(t, "ReadExpr of "+row.what, err, api.OK)
	}
}

func TestPrintedExpressionOf64(t *testing.T) {
	e := op("neg", wide(63))
	back, at, err := yard.ReadExpr(sure(yard.PrintExpr(e)))
	wantAt(t, "ReadExpr", back, at, err, e, 0, api.OK)
}

// value returns the value of an expression by the definition, or the first error.
func value(e yard.Expr, known map[string]*big.Rat) (*big.Rat, api.Errno) {
	switch e.Op {
	case "number":
		return big.NewRat(int64(e.Number), 1), api.OK
	case "name":
		if known[e.Name] == nil {
			return nil, api.ErrUnknown
		}
		return known[e.Name], api.OK
	}
	left, err := value(e.Args[0], known)
	if err != api.OK {
		return nil, err
	}
	if e.Op == "neg" {
		return new(big.Rat).Neg(left), api.OK
	}
	right, err := value(e.Args[1], known)
	switch {
	case err != api.OK:
		return nil, err
	case e.Op == "+":
		return new(big.Rat).Add(left, right), api.OK
	case e.Op == "-":
		return new(big.Rat).Sub(left, right), api.OK
	case e.Op == "*":
		return new(big.Rat).Mul(left, right), api.OK
	case right.Sign() == 0:
		return nil, api.ErrZero
	}
	return new(big.Rat).Quo(left, right), api.OK
}

func TestValuesByTheDefinition(t *testing.T) {
	s := newSource(1004)
	names := []string{"a", "b", "c"}
	values := []api.Rat{"1/2", "-3", "0"}
	known := map[string]*big.Rat{"a": big.NewRat(1, 2), "b": big.NewRat(-3, 1), "c": new(big.Rat)}
	counts := map[api.Errno]int{}
	for range 5000 {
		e := s.expr(s.from(1, 6), "a", "b", "c", s.choice("a", "b", "d"))
		if count, _ := within(e); count > 64 {
			continue
		}
		wanted, wantedErr := value(e, known)
		text := api.Rat("")
		if wantedErr == api.OK {
			text = api.Rat(wanted.RatString())
		}
		got, err := yard.Value(e, names, values)
		want(t, "Value of "+sure(yard.PrintExpr(e)), got, err, text, wantedErr)
		counts[err]++
	}
	if counts[api.OK] < 100 || counts[api.ErrZero] < 100 || counts[api.ErrUnknown] < 100 {
		t.Errorf("too few of a kind: %v", counts)
	}
}

func TestValuesOfTheExamples(t *testing.T) {
	for text, wanted := range map[string]api.Rat{"a+2*(b-1)": "9/2", "-a-b": "-7/2", "1/2": "1/2", "a-b-1": "-7/2", "a-(b-1)": "-3/2", "6/b/2": "1", "-a": "-1/2", "0*-a": "0"} {
		got, e := yard.Value(expr(text), []string{"a", "b"}, []api.Rat{"1/2", "3"})
		want(t, "Value of "+text, got, e, wanted, api.OK)
	}
}

func TestOrderOfErrorsOfValues(t *testing.T) {
	for text, wanted := range map[string]api.Errno{
		"1/0+x": api.ErrZero, "x+1/0": api.ErrUnknown, "x/0": api.ErrUnknown, "1/(x-x)": api.ErrUnknown, "(1/0)/x": api.ErrZero, "0/0": api.ErrZero,
		"1/(a-a)": api.ErrZero, "-x": api.ErrUnknown, "0*x": api.ErrUnknown, "0*(1/0)": api.ErrZero,
	} {
		got, e := yard.Value(expr(text), []string{"a"}, []api.Rat{"1"})
		want(t, "Value of "+text, got, e, "", wanted)
	}
}

// manyNames returns so many names with values.
func manyNames(count int) (names []string, values []api.Rat) {
	for i := range count {
		names, values = append(names, "n"+strconv.Itoa(i)), append(values, api.Rat(strconv.Itoa(i)))
	}
	return names, values
}

func TestErrorsOfNamesAndValues(t *testing.T) {
	one := []api.Rat{"1"}
	names, values := manyNames(257)
	for _, row := range []struct {
		what   string
		names  []string
		values []api.Rat
		e      api.Errno
	}{
		{"256 names", names[:256], values[:256], api.OK},
		{"257 names", names, values, api.ErrMany},
		{"257 names, all of them empty", make([]string, 257), make([]api.Rat, 257), api.ErrMany},
		{"257 names without a value for one", names, values[:256], api.ErrShape},
		{"a name without a value", []string{"n0"}, nil, api.ErrShape},
		{"a value without a name", nil, one, api.ErrShape},
		{"a name that is none without a value", []string{"n0", "1"}, one, api.ErrShape},
		{"a name that is none", []string{"n0", "_"}, []api.Rat{"1", "1"}, api.ErrName},
		{"a name that is none without a number", []string{"1"}, []api.Rat{"x"}, api.ErrName},
		{"a name twice", []string{"n0", "n0"}, []api.Rat{"1", "1"}, api.ErrTwice},
		{"a name twice without a number", []string{"n0", "n0"}, []api.Rat{"1", ""}, api.ErrTwice},
		{"no number", []string{"n0"}, []api.Rat{""}, api.ErrForm},
		{"no number in lowest terms", []string{"n0"}, []api.Rat{"2/4"}, api.ErrForm},
		{"a large number", []string{"n0"}, []api.Rat{ten(601)}, api.ErrLarge},
		{"no number ahead of no name", []string{"n0", "1"}, []api.Rat{"x", "1"}, api.ErrForm},
		{"no number ahead of a name twice", []string{"n0", "n0"}, []api.Rat{"x", "1"}, api.ErrForm},
		{"no name n0", []string{"n1"}, one, api.ErrUnknown},
		{"a wrong value ahead of no name n0", []string{"n1"}, []api.Rat{"x"}, api.ErrForm},
	} {
		got, e := yard.Value(name("n0"), row.names, row.values)
		wanted := api.Rat("")
		if row.e == api.OK {
			wanted = "0"
		}
		want(t, "Value with "+row.what, got, e, wanted, row.e)
	}
	got, e := yard.Value(name("n255"), names[:256], values[:256])
	want(t, "Value of the last one of 256", got, e, "255", api.OK)
}

func TestLargeValues(t *testing.T) {
	most := api.Rat(strings.Repeat("9", 600))
	for text, wanted := range map[string]api.Rat{
		"a": most, "-a": "-" + most, "1/a": "1/" + most, "-1/a": "-1/" + most, "a+1-1": most, "a*a/a": most, "a*a*a*a/a/a/a/a": "1", "1/a/a*a": "1/" + most, "a*a-a*a": "0",
	} {
		got, e := yard.Value(expr(text), []string{"a"}, []api.Rat{most})
		want(t, "Value of "+text, got, e, wanted, api.OK)
	}
	for _, text := range []string{"a+1", "-a-1", "a*a", "1/(a+1)", "a+1/2", "a*10"} {
		got, e := yard.Value(expr(text), []string{"a"}, []api.Rat{most})
		want(t, "Value of "+text, got, e, "", api.ErrLarge)
	}
	got, e := yard.Value(expr("a*a+x"), []string{"a"}, []api.Rat{most})
	want(t, "Value of a name without a value behind what is large", got, e, "", api.ErrUnknown)
}

func TestExpressionsAreNeitherChangedNorShared(t *testing.T) {
	e := expr("a+2*(b-1)")
	sure(yard.PrintExpr(e))
	names, values := []string{"b", "a"}, []api.Rat{"3", "1/2"}
	sure(yard.Value(e, names, values))
	want(t, "the expression", e, 0, expr("a+2*(b-1)"), 0)
	want(t, "the names", names, 0, []string{"b", "a"}, 0)
	want(t, "the values", values, 0, []api.Rat{"3", "1/2"}, 0)
}
