package cut_test

import (
	"slices"
	"testing"

	"trunnel/api"
	"trunnel/cut"
	"trunnel/joint"
	"trunnel/solid"
	"trunnel/space"
)

// P5.2

// carried is the result of Carry, but for its error.
type carried struct {
	rest  api.Solid
	count int
}

func carry(m api.Member, l []api.Cut) (carried, api.Errno) {
	rest, count, e := cut.Carry(m, l)
	return carried{rest, count}, e
}

// slots returns the cuts of example 2.
func slots() (wide, crossing, below api.Cut) {
	wide = made("slot", "top", "2", "4", "0", "4", "3", "4")
	return wide, made("slot", "top", "3", "5", "1", "2", "2", "4"), made("slot", "bottom", "3", "5", "1", "2", "0", "4")
}

func TestLists(t *testing.T) {
	blank := api.Solid{block("0", "0", "0", "10", "4", "4")}
	wide, crossing, below := slots()
	far := made("saw", "end", "1", "0", "0", "8")
	near := made("saw", "start", "-1", "0", "0", "-1")
	inside := made("slot", "top", "2", "3", "1", "2", "1", "2")
	for _, row := range []struct {
		what  string
		l     []api.Cut
		waste api.Rat
		count int
		e     api.Errno
	}{
		{"nothing", nil, "0", 0, api.OK},
		{"a saw", []api.Cut{far}, "32", 1, api.OK},
		{"two saws", []api.Cut{near, far}, "48", 2, api.OK},
		{"a saw twice", []api.Cut{near, near}, "16", 1, api.ErrFace},
		{"example 2", []api.Cut{wide, crossing}, "11", 1, api.ErrFace},
		{"example 2 the other way round", []api.Cut{crossing, wide}, "11", 1, api.ErrFace},
		{"example 2 on bottom", []api.Cut{wide, below}, "15", 2, api.OK},
		{"example 2 on bottom the other way round", []api.Cut{below, wide}, "15", 1, api.ErrFace},
		{"a slot inside", []api.Cut{inside}, "1", 0, api.ErrFace},
		{"a slot inside behind a saw", []api.Cut{far, inside}, "33", 1, api.ErrFace},
		{"a slot behind a slot inside", []api.Cut{inside, wide}, "9", 0, api.ErrFace},
		{"a slot beside the member", []api.Cut{wide, made("slot", "top", "11", "12", "0", "4", "3", "4")}, "8", 1, api.ErrFace},
		{"all", []api.Cut{made("pocket", "left")}, "160", 1, api.OK},
		{"all, and a saw", []api.Cut{made("pocket", "left"), far}, "160", 1, api.ErrFace},
		{"a saw, and all on another face", []api.Cut{far, made("pocket", "start")}, "160", 2, api.OK},
		{"a saw, and all on the same face", []api.Cut{far, made("pocket", "end")}, "160", 1, api.ErrFace},
		{"a saw, and all on a side", []api.Cut{far, made("pocket", "left")}, "160", 1, api.ErrFace},
		{"neighbours", []api.Cut{wide, made("slot", "top", "4", "5", "0", "4", "3", "4")}, "12", 2, api.OK},
		{"slots one below the other", []api.Cut{wide, made("slot", "left", "2", "4", "0", "4", "2", "3")}, "16", 2, api.OK},
		{"a part of a slot", []api.Cut{wide, made("slot", "top", "2", "3", "0", "1", "3", "4")}, "8", 1, api.ErrFace},
		{"a deeper slot on the same place", []api.Cut{wide, made("slot", "top", "2", "4", "0", "4", "1", "4")}, "24", 1, api.ErrFace},
		{"a slot on the place that is left", []api.Cut{wide, made("slot", "left", "2", "4", "0", "4", "1", "4")}, "24", 1, api.ErrFace},
		{"the third of four", []api.Cut{near, far, inside, wide}, "57", 2, api.ErrFace},
	} {
		rest, e := cut.Cuts(beam(), row.l)
		wantedRest, wantedErr := cutsOf(beam(), row.l)
		want(t, "Cuts of "+row.what, rest, e, wantedRest, wantedErr)
		want(t, "the volume that is left behind "+row.what, volume(rest), api.OK, sum(volume(blank), minus(row.waste)), api.OK)
		waste, e := cut.Waste(beam(), row.l)
		want(t, "Waste of "+row.what, waste, e, row.waste, api.OK)
		wanted := carried{rest, row.count}
		if row.e != api.OK {
			wanted.rest = nil
		}
		done, e := carry(beam(), row.l)
		want(t, "Carry of "+row.what, done, e, wanted, row.e)
	}
}

func TestListsOfAnyCuts(t *testing.T) {
	s := newSource(3)
	all, refused := 0, 0
	for range 60 {
		m, l := s.member("M"), s.list(1+s.Intn(4), 6)
		rest, e := cut.Cuts(m, l)
		wantedRest, wantedErr := cutsOf(m, l)
		want(t, "Cuts", rest, e, wantedRest, wantedErr)
		waste, e := cut.Waste(m, l)
		want(t, "Waste", waste, e, sum(volume(sure(joint.Blank(m))), minus(volume(rest))), wantedErr)
		wantedRest, count, wantedErr := carryOf(m, l)
		done, e := carry(m, l)
		want(t, "Carry", done, e, carried{wantedRest, count}, wantedErr)
		if e == api.OK {
			all++
		} else if count > 0 {
			refused++
		}
	}
	if all == 0 || refused == 0 {
		t.Errorf("%d lists were carried out, and %d were not", all, refused)
	}
}

// trenches returns cuts across the top of P that do not touch each other: some from side to side, each of which leaves
// one body more, and behind them some that do not reach the sides, each one shorter than the one before it, so that it
// lies within one of the bodies, and leaves four more.
func trenches(through, inner int) []api.Cut {
	var l []api.Cut
	for i := range through + inner {
		from, to, less := sure(space.Of(2*i+1, 10)), sure(space.Of(2*i+2, 10)), sure(space.Of(i, 100))
		c := made("pocket", "top", "-1", "0", "0", minus(from), "1", "0", "0", to)
		if i >= through {
			c = made("slot", "top", from, to, sum("1", less), sum("3", minus(less)), sum("2", less), "4")
		}
		l = append(l, c)
	}
	return l
}

// sawn returns saw cuts, each of which takes a slice more from the edge of P at its end and its top, and leaves a facet.
func sawn(n int) []api.Cut {
	var l []api.Cut
	for i := range n {
		l = append(l, made("saw", "top", bevel(i)...))
	}
	return l
}

// sliced returns pockets that take the same slices, each of them without those before it.
func sliced(n int) []api.Cut {
	var l []api.Cut
	for i := range n {
		numbers := bevels(i)
		for _, x := range bevel(i) {
			numbers = append(numbers, minus(x))
		}
		l = append(l, made("pocket", "left", numbers...))
	}
	return l
}

func TestErrorsOfLists(t *testing.T) {
	wide, crossing, _ := slots()
	wrong := made("saw", "top", "1000000000", "1", "0", "1")
	for _, row := range []struct {
		what           string
		l              []api.Cut
		bodies, halves int
		e              api.Errno
	}{
		{"64 bodies", trenches(3, 15), 64, 64 * 6, api.OK},
		{"65 bodies", trenches(4, 15), 0, 0, api.ErrMany},
		{"65 bodies at last", append(trenches(0, 16), wide), 0, 0, api.ErrMany},
		{"33 bodies", trenches(32, 0), 33, 33 * 6, api.OK},
		{"a region with an error ahead of bodies", append(trenches(4, 15), wrong), 0, 0, api.ErrLarge},
	} {
		rest, e := cut.Cuts(beam(), row.l)
		want(t, "the bodies of "+row.what, len(rest), e, row.bodies, row.e)
		want(t, "the half-spaces of "+row.what, len(slices.Concat(rest...)), e, row.halves, row.e)
		done, e := carry(beam(), row.l)
		want(t, "Carry of "+row.what, done.count, e, len(row.l)*min(1, row.bodies), row.e)
		want(t, "Carry of "+row.what, done.rest, e, rest, row.e)
		waste, e := cut.Waste(beam(), row.l)
		wanted, _ := cut.Waste(beam(), row.l[:1])
		if row.e != api.OK {
			wanted = ""
		} else {
			wanted = sum("160", minus(volume(rest)))
		}
		want(t, "Waste of "+row.what, waste, e, wanted, row.e)
	}
	for _, row := range []struct {
		what  string
		l     []api.Cut
		count int
		e     api.Errno
	}{
		{"a refused cut ahead of 65 bodies", slices.Concat([]api.Cut{wide, crossing}, trenches(4, 15)), 1, api.ErrFace},
		{"a refused cut behind 65 bodies", append(trenches(4, 15), trenches(1, 0)...), 0, api.ErrMany},
		{"a region with an error ahead of a refused cut", []api.Cut{wide, crossing, wrong}, 0, api.ErrLarge},
	} {
		done, e := carry(beam(), row.l)
		want(t, "Carry of "+row.what, done, e, carried{nil, row.count}, row.e)
	}
}

// TestBodiesWithManyFacets has bodies with more than 32 half-spaces on the way.
func TestBodiesWithManyFacets(t *testing.T) {
	for _, row := range []struct {
		what   string
		l      []api.Cut
		halves int
		e      api.Errno
	}{
		{"26 saws", sawn(26), 32, api.OK},
		{"27 saws", sawn(27), 0, api.ErrMany},
		{"26 slices", sliced(26), 32, api.OK},
		{"27 slices", sliced(27), 0, api.ErrMany},
	} {
		rest, e := cut.Cuts(beam(), row.l)
		want(t, "Cuts of "+row.what, len(slices.Concat(rest...)), e, row.halves, row.e)
		waste, e := cut.Waste(beam(), row.l)
		wanted := api.Rat("")
		if row.e == api.OK {
			wanted = sum("160", minus(volume(rest)))
		}
		want(t, "Waste of "+row.what, waste, e, wanted, row.e)
	}
	// It leaves a corner of P: what it takes has all other facets.
	most := made("saw", "bottom", "1", "1", "1", "1")
	for _, row := range []struct {
		what  string
		l     []api.Cut
		count int
		e     api.Errno
	}{
		{"26 slices", sliced(26), 26, api.OK},
		{"27 slices", sliced(27), 0, api.ErrMany},
		{"25 slices and most of P", append(sliced(25), most), 26, api.OK},
		{"26 slices and most of P", append(sliced(26), most), 0, api.ErrMany},
		{"27 slices behind a cut that is refused", append(append(sliced(1), sliced(1)...), sliced(27)[1:]...), 1, api.ErrFace},
	} {
		done, e := carry(beam(), row.l)
		wanted := carried{nil, row.count}
		if row.e == api.OK {
			wanted.rest = sure(cut.Cuts(beam(), row.l))
		}
		want(t, "Carry of "+row.what, done, e, wanted, row.e)
	}
}

func TestLargeOpeningsOfLists(t *testing.T) {
	m := stick("thin", origin(), "10", small(), small())
	wide, deep := made("saw", "top", "1", "0", "0", "8"), made("saw", "end", "1", "0", "0", "8")
	for _, row := range []struct {
		what  string
		l     []api.Cut
		count int
		e     api.Errno
	}{
		{"an opening with few digits", []api.Cut{wide}, 1, api.OK},
		{"an opening with many digits", []api.Cut{deep}, 0, api.ErrLarge},
		{"an opening with many digits behind a refused cut", []api.Cut{wide, wide, deep}, 0, api.ErrLarge},
		{"a refused cut", []api.Cut{wide, wide}, 1, api.ErrFace},
	} {
		done, e := carry(m, row.l)
		want(t, "Carry of "+row.what, done.count, e, row.count, row.e)
		rest, e := cut.Cuts(m, row.l)
		want(t, "Cuts of "+row.what, rest, e, api.Solid{block("0", "0", "0", "8", small(), small())}, api.OK)
	}
	// What the second cut has left of its opening has an area with many digits.
	l := []api.Cut{made("slot", "top", "0", small(), "0", "1", "3", "4"), made("slot", "top", "0", "1", "0", smaller(), "3", "4")}
	done, e := carry(beam(), l)
	want(t, "Carry of cuts with a large area in common", done, e, carried{nil, 1}, api.ErrFace)
}

func TestErrorsOfWaste(t *testing.T) {
	thin := stick("thin", origin(), "10", small(), small())
	half := made("saw", "top", "2", "0", "0", "10")
	waste, e := cut.Waste(thin, []api.Cut{half})
	want(t, "Waste of a thin member", waste, e, "", api.ErrLarge)
	_, e = cut.Cuts(thin, []api.Cut{half})
	wantError(t, "Cuts of a thin member", e, api.OK)
	waste, e = cut.Waste(thin, nil)
	want(t, "Waste of nothing of a thin member", waste, e, "0", api.OK)
	// Only what is taken has a volume with few digits.
	high := stick("high", origin(), "10", sum("2", small()), sum("2", smaller()))
	waste, e = cut.Waste(high, []api.Cut{made("slot", "top", "0", "1", "0", "1", "0", "1"), made("slot", "end", "9", "10", "1/2", "1", "0", "1")})
	want(t, "Waste of a member with a large volume", waste, e, "3/2", api.OK)
	same, e := solid.Volume(sure(joint.Blank(high)))
	want(t, "its volume", same, e, "", api.ErrLarge)
}
