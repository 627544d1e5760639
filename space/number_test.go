package space

import (
	"math"
	"math/big"
	"strings"
	"testing"

	"trunnel/api"
)

// P1.1

func TestIsName(t *testing.T) {
	for _, row := range []struct {
		s  string
		is bool
	}{
		{"a", true}, {"Z", true}, {"z9", true}, {"post_1", true}, {"A__", true}, {"aZ09_", true},
		{strings.Repeat("x", 24), true}, {strings.Repeat("x", 25), false},
		{"", false}, {"1", false}, {"1x", false}, {"_", false}, {"_x", false}, {"x-y", false}, {"x y", false}, {"x\n", false},
		{"[", false}, {"`", false}, {"{", false}, {"@", false}, {"a:", false}, {"a/", false}, {"a`", false}, {"a[", false},
		{"é", false}, {"aé", false}, {"a\xff", false}, {"a\x00", false}, {"a\u0661", false}, {"\u017f", false}, {"\u212a", false},
	} {
		if got := IsName(row.s); got != row.is {
			t.Errorf("IsName of %q: got %v", row.s, got)
		}
	}
}

func TestCheck(t *testing.T) {
	for _, row := range []struct {
		a string
		e api.Errno
	}{
		{"0", api.OK}, {"7", api.OK}, {"-7", api.OK}, {"3/2", api.OK}, {"-3/2", api.OK}, {"1/2", api.OK}, {"10/9", api.OK}, {"123456789012345678901234567891/2", api.OK}, {"123456789012345678901234567890/7", api.ErrForm},
		{"", api.ErrForm}, {"-", api.ErrForm}, {"/", api.ErrForm}, {"1/", api.ErrForm}, {"/2", api.ErrForm}, {"-/2", api.ErrForm}, {"x", api.ErrForm}, {"1x", api.ErrForm},
		{"-0", api.ErrForm}, {"00", api.ErrForm}, {"01", api.ErrForm}, {"-01", api.ErrForm}, {"01/2", api.ErrForm}, {"1/02", api.ErrForm},
		{"1/0", api.ErrForm}, {"1/1", api.ErrForm}, {"0/0", api.ErrForm}, {"0/1", api.ErrForm}, {"-0/3", api.ErrForm}, {"0/3", api.ErrForm},
		{"+1", api.ErrForm}, {"--1", api.ErrForm}, {"1/-2", api.ErrForm}, {"1/2/3", api.ErrForm}, {"1//2", api.ErrForm}, {"1.5", api.ErrForm},
		{" 1", api.ErrForm}, {"1 ", api.ErrForm}, {"1 /2", api.ErrForm}, {"\u0661", api.ErrForm}, {"1\xff", api.ErrForm}, {"1\x00", api.ErrForm}, {"1e2", api.ErrForm},
		{"4/6", api.ErrForm}, {"-4/2", api.ErrForm}, {"2/2", api.ErrForm}, {"6/9", api.ErrForm},
		{nines(600), api.OK}, {"-" + nines(600), api.OK}, {"1/" + nines(600), api.OK}, {"1" + zeros(599) + "/" + nines(600), api.OK},
		{nines(601), api.ErrLarge}, {"-" + nines(601), api.ErrLarge}, {"1/" + nines(601), api.ErrLarge}, {nines(5000), api.ErrLarge},
		// Common divisors come behind the digits, everything else ahead of them.
		{"0/" + nines(601), api.ErrLarge}, {nines(601) + "/3", api.ErrLarge}, {nines(600) + "/3", api.ErrForm}, {"3/" + nines(600), api.ErrForm},
		{"-0/" + nines(601), api.ErrForm}, {nines(601) + "/0", api.ErrForm}, {nines(601) + "/1", api.ErrForm}, {nines(601) + "x", api.ErrForm}, {"0" + nines(601), api.ErrForm}, {"1/0" + nines(601), api.ErrForm},
	} {
		wantError(t, "Check of "+row.a, Check(api.Rat(row.a)), row.e)
	}
}

func TestOf(t *testing.T) {
	numbers := []int{0, 1, -1, 2, -2, 3, 6, -9, 10, 12, 1000000, math.MaxInt, math.MinInt, math.MaxInt - 1, math.MinInt + 1, math.MinInt / 2}
	for _, num := range numbers {
		for _, den := range numbers {
			got, e := Of(num, den)
			if den == 0 {
				want(t, "Of with 0", got, e, "", api.ErrZero)
				continue
			}
			wantRat(t, "Of", got, e, new(big.Rat).SetFrac(big.NewInt(int64(num)), big.NewInt(int64(den))))
		}
	}
}

func TestParse(t *testing.T) {
	for _, row := range []struct {
		s string
		a string
	}{
		{"12.50", "25/2"}, {"-6/4", "-3/2"}, {"0", "0"}, {"-0", "0"}, {"-0.0", "0"}, {"0/5", "0"}, {"-0/5", "0"}, {"007", "7"}, {"-007/0014", "-1/2"},
		{"3", "3"}, {"0.25", "1/4"}, {"0.1", "1/10"}, {"00.10", "1/10"}, {"-3.0", "-3"}, {"1.000", "1"}, {"6/3", "2"}, {"10/1", "10"}, {"1/01", "1"},
		{zeros(4096), "0"}, {"1/" + zeros(4093) + "2", "1/2"}, {nines(600), nines(600)}, {zeros(5) + nines(600), nines(600)},
		{"1" + zeros(1000) + "/1" + zeros(1000), "1"}, {"2" + zeros(1000) + "/3" + zeros(1000), "2/3"}, {nines(2000) + "/" + ones(2000), "9"},
		{"1." + zeros(4094), "1"}, {"0." + zeros(598) + "1", "1/1" + zeros(599)}, {"0." + zeros(599) + "2", "1/5" + zeros(599)},
		{"123456789012345678901234567890.5", "246913578024691357802469135781/2"},
	} {
		a, e := Parse(row.s)
		want(t, "Parse of "+row.s, a, e, api.Rat(row.a), api.OK)
	}
	for _, row := range []struct {
		s string
		e api.Errno
	}{
		{"", api.ErrSyntax}, {"-", api.ErrSyntax}, {".", api.ErrSyntax}, {"/", api.ErrSyntax}, {".5", api.ErrSyntax}, {"5.", api.ErrSyntax}, {"5/", api.ErrSyntax}, {"/5", api.ErrSyntax}, {"-.5", api.ErrSyntax}, {"-/0", api.ErrSyntax},
		{"+1", api.ErrSyntax}, {"--1", api.ErrSyntax}, {"1/-2", api.ErrSyntax}, {"1-", api.ErrSyntax}, {"1.2.3", api.ErrSyntax}, {"1/2/3", api.ErrSyntax}, {"1.5/2", api.ErrSyntax}, {"1/2.5", api.ErrSyntax}, {"1/0.0", api.ErrSyntax}, {"x/0", api.ErrSyntax},
		{" 1", api.ErrSyntax}, {"1 ", api.ErrSyntax}, {"1 / 2", api.ErrSyntax}, {"1e5", api.ErrSyntax}, {"0x10", api.ErrSyntax}, {"1_000", api.ErrSyntax}, {"\u0661", api.ErrSyntax}, {"1\xff", api.ErrSyntax}, {"1,5", api.ErrSyntax},
		{"1/0", api.ErrZero}, {"0/0", api.ErrZero}, {"-5/000", api.ErrZero}, {nines(601) + "/0", api.ErrZero},
		{zeros(4097), api.ErrLong}, {strings.Repeat("x", 4097), api.ErrLong}, {nines(4097), api.ErrLong}, {"1/" + zeros(4095), api.ErrLong},
		{strings.Repeat("x", 4096), api.ErrSyntax}, {"1/" + zeros(4094), api.ErrZero},
		{nines(601), api.ErrLarge}, {"-" + nines(4095), api.ErrLarge}, {"1/" + nines(601), api.ErrLarge}, {"0." + zeros(599) + "1", api.ErrLarge}, {"0." + zeros(4093) + "1", api.ErrLarge},
	} {
		a, e := Parse(row.s)
		want(t, "Parse of "+row.s, a, e, "", row.e)
	}
}

func TestParseReadsNumbers(t *testing.T) {
	s := newSource(3)
	for range 500 {
		a := s.rat(600)
		got, e := Parse(string(a))
		want(t, "Parse of a number", got, e, a, api.OK)
		wantError(t, "Check of a number", Check(a), api.OK)
	}
}

// Text is for numbers of any size: where there are few enough digits it is what Write returns.
func TestTexts(t *testing.T) {
	s := newSource(31)
	for range 300 {
		a, b := s.rat(600), s.rat(600)
		x, _ := ReadNumber(a)
		y, _ := ReadNumber(b)
		want(t, "Text", x.Text(), api.OK, string(a), api.OK)
		want(t, "Text of a product", x.Times(y).Text(), api.OK, mul(bigOf(a), bigOf(b)).RatString(), api.OK)
		want(t, "Text of a sum", x.Plus(y).Text(), api.OK, add(bigOf(a), bigOf(b)).RatString(), api.OK)
	}
	large, _ := ReadNumber(api.Rat(nines(600)))
	want(t, "Text of a large number", large.Times(large).Negated().Text(), api.OK, "-"+nines(599)+"8"+zeros(599)+"1", api.OK)
	want(t, "Text of a small number", Integer(1).Over(large.Times(large)).Text(), api.OK, "1/"+nines(599)+"8"+zeros(599)+"1", api.OK)
	want(t, "Text of the zero value", Number{}.Text(), api.OK, "0", api.OK)
}

func TestArithmetic(t *testing.T) {
	s := newSource(4)
	for i := range 3000 {
		most := min(api.MaxDigits, 1+i%3*2+i%50/49*598)
		a, b := s.rat(most), s.rat(most)
		x, y := bigOf(a), bigOf(b)
		got, e := Add(a, b)
		wantRat(t, "Add", got, e, add(x, y))
		got, e = Sub(a, b)
		wantRat(t, "Sub", got, e, sub(x, y))
		got, e = Mul(a, b)
		wantRat(t, "Mul", got, e, mul(x, y))
		n, e := Compare(a, b)
		want(t, "Compare", n, e, x.Cmp(y), api.OK)
		n, e = Compare(a, a)
		want(t, "Compare of a number with itself", n, e, 0, api.OK)
		got, e = Div(a, b)
		if y.Sign() == 0 {
			want(t, "Div by 0", got, e, "", api.ErrZero)
		} else {
			wantRat(t, "Div", got, e, quo(x, y))
		}
	}
}

func TestArithmeticLimits(t *testing.T) {
	most := api.Rat(nines(600))
	least := "1/" + most
	got, e := Add(most, "1")
	want(t, "Add above the limit", got, e, "", api.ErrLarge)
	got, e = Add(most, "-1")
	want(t, "Add below the limit", got, e, api.Rat(nines(599)+"8"), api.OK)
	got, e = Sub("-"+most, "1")
	want(t, "Sub above the limit", got, e, "", api.ErrLarge)
	got, e = Mul(most, "2")
	want(t, "Mul above the limit", got, e, "", api.ErrLarge)
	got, e = Mul(least, "1/2")
	want(t, "Mul with a great denominator", got, e, "", api.ErrLarge)
	got, e = Mul(most, least)
	want(t, "Mul of a number and its inverse", got, e, "1", api.OK)
	got, e = Div(most, "1/2")
	want(t, "Div above the limit", got, e, "", api.ErrLarge)
	got, e = Div(least, least)
	want(t, "Div of a number by itself", got, e, "1", api.OK)
	got, e = Div(most, "0")
	want(t, "Div by 0", got, e, "", api.ErrZero)
	n, e := Compare(most, "-"+most)
	want(t, "Compare of great numbers", n, e, 1, api.OK)
	n, e = Compare("0", least)
	want(t, "Compare with a small number", n, e, -1, api.OK)
}

func TestFloor(t *testing.T) {
	for _, row := range [][2]api.Rat{
		{"0", "0"}, {"1/2", "0"}, {"-1/2", "-1"}, {"3/2", "1"}, {"-3/2", "-2"}, {"7", "7"}, {"-7", "-7"}, {"-7/3", "-3"}, {"8/3", "2"},
		{"-1/" + api.Rat(nines(600)), "-1"}, {api.Rat("-" + nines(600)), api.Rat("-" + nines(600))}, {api.Rat("-" + nines(600) + "/2"), api.Rat("-5" + zeros(599))},
	} {
		got, e := Floor(row[0])
		want(t, "Floor of "+string(row[0]), got, e, row[1], api.OK)
	}
}
