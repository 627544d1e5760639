package cut_test

import (
	"slices"
	"testing"

	"trunnel/api"
	"trunnel/cut"
	"trunnel/solid"
	"trunnel/space"
)

// P5.3

// above returns a slot across the top of P, from a place to the next one, and under one on the bottom, which reaches the top.
func above(at int) api.Cut {
	return made("slot", "top", integer(at), integer(at+1), "0", "4", "3", "4")
}

func under(at int) api.Cut {
	return made("slot", "bottom", integer(at), integer(at+1), "1", "2", "0", "4")
}

func TestOrders(t *testing.T) {
	wide, crossing, through := slots()
	inside := made("slot", "top", "2", "3", "1", "2", "1", "2")
	// Of these three each one takes a part of the place of the one before it.
	onTop := made("slot", "top", "2", "4", "1", "2", "0", "4")
	onLeft := made("slot", "left", "7/2", "6", "0", "3/2", "1/2", "4")
	onBottom := made("slot", "bottom", "3", "6", "0", "2", "0", "1")
	for _, row := range []struct {
		what   string
		l      []api.Cut
		needs  [][2]int
		order  []int
		circle []int
	}{
		{"nothing", nil, nil, nil, nil},
		{"one cut", []api.Cut{wide}, nil, []int{0}, nil},
		{"one cut inside", []api.Cut{inside}, nil, nil, []int{0}},
		{"example 2", []api.Cut{wide, crossing}, [][2]int{{0, 1}, {1, 0}}, nil, []int{0, 1}},
		{"example 2 on bottom", []api.Cut{wide, through}, [][2]int{{0, 1}}, []int{0, 1}, nil},
		{"example 2 on bottom the other way round", []api.Cut{through, wide}, [][2]int{{1, 0}}, []int{1, 0}, nil},
		{"neighbours", []api.Cut{above(3), above(2), above(4)}, nil, []int{0, 1, 2}, nil},
		{"the same twice", []api.Cut{above(3), above(3)}, [][2]int{{0, 1}, {1, 0}}, nil, []int{0, 1}},
		{"cuts one below the other", []api.Cut{above(3), made("slot", "left", "3", "4", "0", "1", "1", "3")}, nil, []int{0, 1}, nil},
		{"a cut behind the third one", []api.Cut{under(3), above(1), above(3), above(5)}, [][2]int{{2, 0}}, []int{1, 2, 0, 3}, nil},
		{"two cuts behind others", []api.Cut{under(3), under(1), above(1), above(3)}, [][2]int{{2, 1}, {3, 0}}, []int{2, 1, 3, 0}, nil},
		{"a cut behind all others", []api.Cut{made("slot", "bottom", "1", "6", "0", "4", "0", "4"), above(5), above(1), above(3)}, [][2]int{{1, 0}, {2, 0}, {3, 0}}, []int{1, 2, 3, 0}, nil},
		{"a cut ahead of two others", []api.Cut{under(3), under(2), above(8), wide}, [][2]int{{3, 0}, {3, 1}}, []int{2, 3, 0, 1}, nil},
		{"one behind the other", []api.Cut{onTop, onLeft}, [][2]int{{0, 1}}, []int{0, 1}, nil},
		{"one ahead of the other", []api.Cut{onTop, onBottom}, [][2]int{{1, 0}}, []int{1, 0}, nil},
		{"a circle of three", []api.Cut{onTop, onLeft, onBottom}, [][2]int{{0, 1}, {1, 2}, {2, 0}}, nil, []int{0, 1, 2}},
		{"a circle of three, and others", []api.Cut{above(8), onBottom, onLeft, above(7), onTop}, [][2]int{{1, 4}, {2, 1}, {4, 2}}, nil, []int{1, 2, 4}},
		{"a circle, and others", []api.Cut{above(8), wide, above(6), crossing}, [][2]int{{1, 3}, {3, 1}}, nil, []int{1, 3}},
		{"a circle, one ahead of it and one behind it", []api.Cut{under(4), wide, made("slot", "left", "2", "3", "0", "1", "2", "7/2"), crossing}, [][2]int{{1, 3}, {2, 1}, {3, 0}, {3, 1}}, nil, []int{0, 1, 3}},
		{"a cut inside, and one above it", []api.Cut{inside, above(2), made("slot", "bottom", "2", "3", "1", "2", "0", "2")}, nil, nil, []int{0}},
		{"a cut of all, and one inside", []api.Cut{made("pocket", "top"), inside}, nil, nil, []int{1}},
	} {
		m := beam()
		want(t, "the needs of "+row.what, needsOf(m, row.l), api.OK, row.needs, api.OK)
		needs, e := cut.Needs(m, row.l)
		want(t, "Needs of "+row.what, needs, e, row.needs, api.OK)
		wanted := api.OK
		if len(row.circle) > 0 {
			wanted = api.ErrFace
		}
		order, e := cut.Order(m, row.l)
		want(t, "Order of "+row.what, order, e, row.order, wanted)
		circle, e := cut.Circle(m, row.l)
		want(t, "Circle of "+row.what, circle, e, row.circle, api.OK)
	}
}

// firstOrder returns the first order of a list in which it can be carried out, or ErrFace.
func firstOrder(m api.Member, l []api.Cut) ([]int, api.Errno) {
	for _, order := range permutations(len(l)) {
		if _, _, e := carryOf(m, ordered(l, order)); e == api.OK {
			return order, api.OK
		}
	}
	return nil, api.ErrFace
}

// opened returns a slot that begins at a face.
func (s source) opened(m api.Member) api.Cut {
	c := made("slot", names()[s.Intn(6)])
	r, _ := faceOf(m, c.Face)
	for axis, size := range m.Size {
		eighths := func(n int) api.Rat { return sure(space.Mul(size, sure(space.Of(n, 8)))) }
		from := s.Intn(7)
		to := from + 1 + s.Intn(min(3, 8-from))
		switch r.n[axis] {
		case "1":
			to = 8
		case "-1":
			from, to = 0, 1+s.Intn(8)
		}
		c.Numbers = append(c.Numbers, eighths(from), eighths(to))
	}
	return c
}

func TestOrdersOfAnyLists(t *testing.T) {
	s := newSource(4)
	turned, refused := 0, 0
	for i := range 80 {
		m := s.member("M")
		l := s.list(1+i%3, 6)
		if i%4 > 0 {
			l = nil
			for range 3 + s.Intn(2) {
				l = append(l, s.opened(m))
			}
		}
		needs, e := cut.Needs(m, l)
		want(t, "Needs", needs, e, needsOf(m, l), api.OK)
		circle, e := cut.Circle(m, l)
		want(t, "Circle", circle, e, circleOf(m, l), api.OK)
		wanted, wantedErr := firstOrder(m, l)
		order, e := cut.Order(m, l)
		want(t, "Order", order, e, wanted, wantedErr)
		switch {
		case wantedErr != api.OK:
			refused++
		case len(needs) > 0:
			turned++
		}
	}
	if turned < 5 || refused < 5 {
		t.Errorf("%d lists had needs and an order, %d had no order", turned, refused)
	}
}

// chain returns cuts, each of which has to come before the one in front of it: they slant from one face to the place on
// the other one where the next one begins.
func chain(n int) []api.Cut {
	l := make([]api.Cut, n)
	for i := range l {
		face, slope, from := "top", api.Rat("1/16"), sure(space.Of(5+i, 4))
		if i%2 > 0 {
			face, slope, from = "bottom", "-1/16", sure(space.Of(4+i, 4))
		}
		l[i] = made("pocket", face, "-1", "0", minus(slope), minus(from), "1", "0", slope, sum(from, "1/8"))
	}
	return l
}

func TestLongOrders(t *testing.T) {
	l := chain(api.MaxCuts)
	var wanted [][2]int
	var order []int
	for i := range l {
		order = append(order, len(l)-1-i)
		if i > 0 {
			wanted = append(wanted, [2]int{i, i - 1})
		}
	}
	needs, e := cut.Needs(beam(), l)
	want(t, "Needs of a chain", needs, e, wanted, api.OK)
	got, e := cut.Order(beam(), l)
	want(t, "Order of a chain", got, e, order, api.OK)
	circle, e := cut.Circle(beam(), l)
	want(t, "Circle of a chain", circle, e, nil, api.OK)
	_, count, e := cut.Carry(beam(), ordered(l, order))
	want(t, "Carry of a chain in its order", count, e, len(l), api.OK)
	// Twice the same cut is a circle, and all those in front of it are behind it.
	l = chain(31)
	circle, e = cut.Circle(beam(), append(l, l[15]))
	want(t, "Circle of a chain with a circle", circle, e, append(slices.Clone(slices.Sorted(slices.Values(order))[:16]), 31), api.OK)
}

// TestErrorsOfOrders has errors of pairs, and those ahead of them.
func TestErrorsOfOrders(t *testing.T) {
	thin := stick("thin", origin(), "10", small(), small())
	deep, shallow := made("saw", "end", "1", "0", "0", "8"), made("saw", "top", "1", "0", "0", "8")
	long, short := made("slot", "top", "0", small(), "0", "1", "3", "4"), made("slot", "top", "0", "1", "0", smaller(), "3", "4")
	inside := made("slot", "top", "2", "3", "1", "2", "1", "2")
	far := made("slot", "top", "5", "6", "0", "4", "3", "4")
	// Bodies with a facet for each bevel of P, and of its mirror image.
	ahead := func(n int) api.Cut { return made("pocket", "bottom", bevels(n)...) }
	behind := func(n int) api.Cut {
		numbers := bevels(n)
		for i := 0; i < len(numbers); i += 4 { // x becomes 10 - x
			numbers[i+3] = sum(numbers[i+3], sure(space.Mul("-10", numbers[i])))
			numbers[i] = minus(numbers[i])
		}
		return made("pocket", "bottom", numbers...)
	}
	for _, row := range []struct {
		what         string
		m            api.Member
		l            []api.Cut
		needs, order api.Errno
	}{
		{"an opening with many digits", thin, []api.Cut{deep}, api.OK, api.ErrLarge},
		{"an opening with many digits behind another one", thin, []api.Cut{made("saw", "top", "-1", "0", "0", "-1"), deep}, api.OK, api.ErrLarge},
		{"a common opening with many digits", thin, []api.Cut{shallow, deep}, api.ErrLarge, api.ErrLarge},
		{"openings with few digits, which have one with many in common", beam(), []api.Cut{long, short}, api.ErrLarge, api.ErrLarge},
		{"openings with few digits", beam(), []api.Cut{long, far}, api.OK, api.OK},
		{"a large common opening ahead of a circle", beam(), []api.Cut{far, far, inside, long, short}, api.ErrLarge, api.ErrLarge},
		{"13 and 13 bevels", beam(), []api.Cut{ahead(13), behind(13)}, api.OK, api.ErrFace},
		{"13 and 14 bevels", beam(), []api.Cut{ahead(13), behind(14)}, api.ErrMany, api.ErrMany},
		{"14 and 13 bevels at last", beam(), []api.Cut{inside, inside, ahead(14), behind(13)}, api.ErrMany, api.ErrMany},
		{"an opening ahead of pairs", thin, []api.Cut{made("saw", "top", "1000000000", "1", "0", "1"), deep}, api.ErrLarge, api.ErrLarge},
	} {
		_, e := cut.Needs(row.m, row.l)
		wantError(t, "Needs of "+row.what, e, row.needs)
		order, e := cut.Order(row.m, row.l)
		wantError(t, "Order of "+row.what, e, row.order)
		if e != api.OK {
			want(t, "Order of "+row.what, order, e, nil, e)
		}
		circle, e := cut.Circle(row.m, row.l)
		if row.order == api.ErrFace {
			wantError(t, "Circle of "+row.what, e, api.OK)
			continue
		}
		want(t, "Circle of "+row.what, circle, e, nil, row.order)
	}
	both := sure(solid.And(sure(cut.Region(beam(), ahead(13))), sure(cut.Region(beam(), behind(13)))))
	want(t, "the half-spaces of 13 and 13 bevels", len(both[0]), api.OK, 32, api.OK)
}
