package cut_test

import (
	"slices"
	"testing"

	"trunnel/api"
	"trunnel/cut"
)

// P5.1, CheckCut

// wrongCut is a cut with an error, or without.
type wrongCut struct {
	what string
	c    api.Cut
	e    api.Errno
}

func wrongCuts() []wrongCut {
	return []wrongCut{
		{"nothing", api.Cut{}, api.ErrKind},
		{"no kind", made("", "top", "1", "0", "0", "8"), api.ErrKind},
		{"another kind", made("axe", "top", "1", "0", "0", "8"), api.ErrKind},
		{"a kind in capitals", made("Saw", "top", "1", "0", "0", "8"), api.ErrKind},
		{"a kind with a blank", made("saw ", "top", "1", "0", "0", "8"), api.ErrKind},
		{"a kind ahead of all", made("axe", "roof", "2/4"), api.ErrKind},
		{"no face", made("saw", "", "1", "0", "0", "8"), api.ErrUnknown},
		{"another face", made("pocket", "roof"), api.ErrUnknown},
		{"a face in capitals", made("pocket", "TOP"), api.ErrUnknown},
		{"a face ahead of numbers", made("saw", "roof", "2/4"), api.ErrUnknown},

		{"a saw without numbers", made("saw", "top"), api.ErrShape},
		{"a short saw", made("saw", "top", "1", "0", "0"), api.ErrShape},
		{"a long saw", made("saw", "top", "1", "0", "0", "8", "1"), api.ErrShape},
		{"two saws", made("saw", "top", "1", "0", "0", "8", "1", "0", "0", "8"), api.ErrShape},
		{"a short slot", made("slot", "top", "0", "1", "0", "1", "0"), api.ErrShape},
		{"a long slot", made("slot", "top", "0", "1", "0", "1", "0", "1", "0"), api.ErrShape},
		{"a short bore", made("bore", "top", "1", "1", "1", "0"), api.ErrShape},
		{"a long bore", made("bore", "top", "1", "1", "1", "0", "1", "1"), api.ErrShape},
		{"a pocket of one number", made("pocket", "top", "1"), api.ErrShape},
		{"a pocket of three numbers", made("pocket", "top", "1", "0", "0"), api.ErrShape},
		{"a pocket of five numbers", made("pocket", "top", "1", "0", "0", "1", "2"), api.ErrShape},
		{"a pocket of six numbers", made("pocket", "top", "1", "0", "0", "1", "2", "3"), api.ErrShape},
		{"a count ahead of numbers", made("saw", "top", "2/4"), api.ErrShape},

		{"a pocket of 256 numbers", made("pocket", "top", slices.Repeat([]api.Rat{"1"}, 256)...), api.OK},
		{"a pocket of 257 numbers", made("pocket", "top", slices.Repeat([]api.Rat{"1"}, 257)...), api.ErrShape},
		{"a pocket of 260 numbers", made("pocket", "top", slices.Repeat([]api.Rat{"1"}, 260)...), api.ErrMany},
		{"260 wrong numbers", made("pocket", "top", slices.Repeat([]api.Rat{"x"}, 260)...), api.ErrMany},
		{"260 numbers 0", made("pocket", "top", slices.Repeat([]api.Rat{"0"}, 260)...), api.ErrMany},
		{"a saw of 260 numbers", made("saw", "top", slices.Repeat([]api.Rat{"1"}, 260)...), api.ErrShape},

		{"an empty number", made("saw", "top", "1", "0", "0", ""), api.ErrForm},
		{"a number that is not in lowest terms", made("saw", "top", "2/4", "0", "0", "8"), api.ErrForm},
		{"a decimal number", made("slot", "top", "0", "1.5", "0", "1", "0", "1"), api.ErrForm},
		{"600 digits", made("saw", "top", "1", "0", "0", digits(600)), api.OK},
		{"601 digits", made("saw", "top", "1", "0", "0", digits(601)), api.ErrLarge},
		{"601 digits in the denominator", made("bore", "top", "1", "1/1"+zeros(600), "1", "0", "1"), api.ErrLarge},
		{"the first number with an error", made("saw", "top", "1", digits(601), "0", "x"), api.ErrLarge},
		{"the first number with another error", made("saw", "top", "1", "x", digits(601), "0"), api.ErrForm},
		{"a number ahead of 0", made("saw", "top", "0", "0", "0", "x"), api.ErrForm},
		{"a number ahead of an order", made("slot", "top", "1", "0", "0", "1", "0", "x"), api.ErrForm},
		{"a number ahead of a range", made("bore", "top", "1", "1", "0", "0", "x"), api.ErrForm},

		{"a saw without a direction", made("saw", "top", "0", "0", "0", "8"), api.ErrZero},
		{"a saw at 0", made("saw", "top", "1", "0", "0", "0"), api.OK},
		{"a saw along y", made("saw", "left", "0", "-1", "0", "0"), api.OK},
		{"a saw along z", made("saw", "right", "0", "0", "1/2", "0"), api.OK},
		{"a pocket without a direction", made("pocket", "top", "0", "0", "0", "8"), api.ErrZero},
		{"a pocket without a second direction", made("pocket", "top", "1", "0", "0", "8", "0", "0", "0", "1"), api.ErrZero},
		{"a pocket without a last direction", made("pocket", "top", "1", "0", "0", "8", "0", "1", "0", "1", "0", "0", "0", "0"), api.ErrZero},
		{"an empty pocket", made("pocket", "bottom"), api.OK},
		{"a pocket of two", made("pocket", "start", "1", "0", "0", "8", "0", "0", "-1", "1"), api.OK},
		{"the same twice in a pocket", made("pocket", "end", "1", "0", "0", "8", "1", "0", "0", "8"), api.OK},

		{"a slot", made("slot", "top", "-1", "1/3", "-1", "0", "7", "8"), api.OK},
		{"a slot without an x", made("slot", "top", "1", "1", "0", "1", "0", "1"), api.ErrOrder},
		{"a slot with a wrong x", made("slot", "top", "1/2", "1/3", "0", "1", "0", "1"), api.ErrOrder},
		{"a slot without a y", made("slot", "top", "0", "1", "-1", "-1", "0", "1"), api.ErrOrder},
		{"a slot with a wrong y", made("slot", "top", "0", "1", "-1", "-2", "0", "1"), api.ErrOrder},
		{"a slot without a z", made("slot", "top", "0", "1", "0", "1", "1/2", "1/2"), api.ErrOrder},
		{"a slot with a wrong z", made("slot", "top", "0", "1", "0", "1", "10", "9"), api.ErrOrder},
		{"a bore", made("bore", "left", "-5", "7", "1/9", "-3", "-2"), api.OK},
		{"a bore without a y", made("bore", "left", "1", "1", "1", "4", "4"), api.ErrOrder},
		{"a bore with a wrong y", made("bore", "left", "1", "1", "1", "4", "0"), api.ErrOrder},
		{"a bore without a radius", made("bore", "left", "1", "1", "0", "0", "4"), api.ErrRange},
		{"a bore with a wrong radius", made("bore", "left", "1", "1", "-1/2", "0", "4"), api.ErrRange},
		{"an order ahead of a range", made("bore", "left", "1", "1", "0", "4", "4"), api.ErrOrder},
	}
}

func TestCheckCut(t *testing.T) {
	for _, row := range wrongCuts() {
		wantError(t, "CheckCut of "+row.what, cut.CheckCut(row.c), row.e)
	}
	for _, kind := range []string{"saw", "slot", "bore", "pocket"} {
		numbers := map[string][]api.Rat{"saw": {"1", "2", "3", "4"}, "slot": {"1", "2", "3", "4", "5", "6"}, "bore": {"1", "2", "3", "4", "5"}}[kind]
		for _, face := range names() {
			wantError(t, "CheckCut of a "+kind+" on "+face, cut.CheckCut(made(kind, face, numbers...)), api.OK)
		}
	}
}
