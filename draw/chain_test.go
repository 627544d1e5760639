package draw_test

import (
	"slices"
	"testing"

	"trunnel/api"
	"trunnel/draw"
	"trunnel/solid"
)

// P9.4

func TestChains(t *testing.T) {
	for _, row := range []struct {
		what      string
		s         api.Solid
		d, wanted string
	}{
		{"the example", near(), "2 0 0", "0 1"},
		{"a box, along x", near(), "1 0 0", "0 2"},
		{"a box, against x", near(), "-1 0 0", "-2 0"},
		{"a box, along y", near(), "0 1/3 0", "0 9"},
		{"a box, along z", near(), "0 0 3", "0 4/3"},
		{"a box, across", near(), "1 1 0", "0 1 3/2 5/2"},
		{"a box, in general", near(), "1 2 2", "0 2/9 2/3 8/9 10/9 14/9 16/9"},
		{"a box far away", boxes("7 0 0 9 1 1"), "1 0 0", "7 9"},
		{"two boxes", append(near(), box("2 0 0 3 1 1")), "1 0 0", "0 2 3"},
		{"boxes in any order", boxes("5 0 0 7 1 1, -1 0 0 2 1 1, 2 0 0 5 1 1"), "1 0 0", "-1 2 5 7"},
		{"a box in two halves", boxes("0 0 0 1 3 4, 1 0 0 2 3 4"), "1 0 0", "0 1 2"},
		{"a tetrahedron", api.Solid{hull("0 0 0, 1 0 0, 0 1 0, 0 0 1")}, "1 2 3", "0 1/14 1/7 3/14"},
	} {
		c, e := draw.Chain(row.s, vec(row.d))
		want(t, "Chain of "+row.what, c, e, rats(row.wanted), api.OK)
	}
	for _, row := range []struct {
		what string
		s    api.Solid
		d    string
		e    api.Errno
	}{
		{"nothing", nil, "1 0 0", api.ErrEmpty},
		{"no direction", near(), "0 0 0", api.ErrZero},
		{"nothing, without a direction", nil, "0 0 0", api.ErrZero},
		{"a text that is no number", nil, "0 0 x", api.ErrForm},
	} {
		c, e := draw.Chain(row.s, vec(row.d))
		want(t, "Chain of "+row.what, c, e, nil, row.e)
	}
}

func TestChainsOfAnySolids(t *testing.T) {
	s := newSource(12)
	for range 100 {
		one, d := s.solid(), s.vec(-3, 3)
		if len(one) == 0 || d == vec("0 0 0") {
			continue
		}
		axis := pointOf(d)
		var wanted []api.Rat
		for _, b := range one {
			for _, p := range sure(solid.Corners(b)) {
				wanted = append(wanted, ratOf(over(axis.dot(pointOf(p)), axis.dot(axis))))
			}
		}
		slices.SortFunc(wanted, func(a, b api.Rat) int { return numOf(a).Cmp(numOf(b)) })
		c, e := draw.Chain(one, d)
		want(t, "Chain", c, e, slices.Compact(wanted), api.OK)
	}
}

// upTo returns the numbers below n.
func upTo(n int) []api.Rat {
	l := make([]api.Rat, n)
	for i := range l {
		l[i] = integer(i)
	}
	return l
}

func TestSteps(t *testing.T) {
	for _, row := range []struct{ chain, wanted string }{
		{"0 1", "1"},
		{"0 2 3", "2 1"},
		{"5", ""},
		{"-7/2", ""},
		{"-7/2 -1/3 0 1/2", "19/6 1/3 1/2"},
		{"9 10 100", "1 90"},
	} {
		l, e := draw.Steps(rats(row.chain))
		want(t, "Steps of "+row.chain, l, e, rats(row.wanted), api.OK)
	}
	l, e := draw.Steps(upTo(256))
	want(t, "Steps of 256 numbers", l, e, slices.Repeat([]api.Rat{"1"}, 255), api.OK)
}

func TestErrorsOfSteps(t *testing.T) {
	for _, row := range []struct {
		what  string
		chain []api.Rat
		e     api.Errno
	}{
		{"no numbers", nil, api.ErrEmpty},
		{"257 numbers", upTo(257), api.ErrMany},
		{"257 numbers with an error", append(rats("x"), upTo(256)...), api.ErrMany},
		{"257 numbers in a wrong order", slices.Repeat([]api.Rat{"1"}, 257), api.ErrMany},
		{"256 numbers in a wrong order", slices.Repeat([]api.Rat{"1"}, 256), api.ErrOrder},
		{"a text that is no number", rats("1 2 03"), api.ErrForm},
		{"one text that is no number", rats("x"), api.ErrForm},
		{"a large number", append(rats("1 2"), ten(601)), api.ErrLarge},
		{"a large number ahead of a text that is none", append(rats("1"), ten(601), "x"), api.ErrLarge},
		{"a text that is no number ahead of a large one", append(rats("1 x"), ten(601)), api.ErrForm},
		{"equal numbers", rats("1 1"), api.ErrOrder},
		{"equal numbers behind others", rats("1 2 3 3 4"), api.ErrOrder},
		{"a lesser number", rats("1 2 3/2"), api.ErrOrder},
		{"a number that is less as a number alone", rats("2 10 9"), api.ErrOrder},
		{"a wrong order behind a text that is no number", rats("x 2 1"), api.ErrForm},
	} {
		l, e := draw.Steps(row.chain)
		want(t, "Steps of "+row.what, l, e, nil, row.e)
	}
}
