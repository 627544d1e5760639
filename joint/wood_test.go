package joint_test

import (
	"testing"

	"trunnel/api"
	"trunnel/joint"
	"trunnel/solid"
	"trunnel/space"
)

// P3.4

func TestSections(t *testing.T) {
	long := pair()
	long.Members[0].Frame.X[0] = "1/3"
	for _, row := range []struct {
		what string
		t    api.Timbers
		k    int
		at   api.Rat
		want api.Rat
	}{
		{"P at the tenon", tenon(), 0, "5", "3/4"},
		{"P beside the tenon", tenon(), 0, "17/4", "1"},
		{"P where the tenon begins", tenon(), 0, "9/2", "1"},
		{"P where the tenon ends", tenon(), 0, "11/2", "3/4"},
		{"P just behind where the tenon begins", tenon(), 0, "4500001/1000000", "3/4"},
		{"P at its end", tenon(), 0, "10", "1"},
		{"P at its beginning", tenon(), 0, "1/1000000", "1"},
		{"Q below its shoulders", tenon(), 1, "1", "1"},
		{"Q at its shoulders", tenon(), 1, "6", "1"},
		{"Q behind its shoulders", tenon(), 1, "13/2", "1/2"},
		{"Q at its end", tenon(), 1, "8", "1/2"},
		{"a birdsmouth", joined("birdsmouth"), 1, "7", "0"},
		{"a dovetail", joined("dovetail", "6", "8", "1/2", "3/2", "0", "2", "1/4"), 1, "7", "3/4"},
		{"a dovetail in P", joined("dovetail", "6", "8", "1/2", "3/2", "0", "2", "1/4"), 0, "17/4", "7/8"},
		{"a peg across the tenon", pegged(), 0, "5", "11/16"},
		{"no joint", pair(), 0, "1/3", "1"},
		{"a member with a short axis, at its end", long, 0, "10", "1"},
		{"a member with a short axis", long, 0, "9", "1"},
	} {
		got, e := joint.Section(row.t, row.k, row.at)
		want(t, "Section of "+row.what, got, e, row.want, api.OK)
	}
}

func TestSectionErrors(t *testing.T) {
	far := pair()
	far.Members[0].Frame.Origin[0] = "-1/1" + zeros(599)
	for _, row := range []struct {
		what string
		t    api.Timbers
		k    int
		at   api.Rat
		e    api.Errno
	}{
		{"no number", tenon(), 0, "5.5", api.ErrForm},
		{"a large number", tenon(), 0, digits(601), api.ErrLarge},
		{"0", tenon(), 0, "0", api.ErrRange},
		{"a place below 0", tenon(), 0, "-1", api.ErrRange},
		{"a place beyond the end", tenon(), 0, "10000001/1000000", api.ErrRange},
		{"a place beyond the end of Q", tenon(), 1, "9", api.ErrRange},
		{"no member, and no number", tenon(), 2, "x", api.ErrUnknown},
		{"a wrong place ahead of an error of Finished", joined("scarf", "1000000000", "1"), 0, "11", api.ErrRange},
		{"a large place ahead of an error of Finished", bevels(27), 0, digits(601), api.ErrLarge},
		{"an error of Finished", bevels(27), 0, "1", api.ErrMany},
		{"a plane near the origin", far, 0, "1/7", api.OK},
		{"a plane that has no form", far, 0, "1/11", api.ErrLarge},
	} {
		got, e := joint.Section(row.t, row.k, row.at)
		wanted := api.Rat("")
		if row.e == api.OK {
			wanted = "1"
		}
		want(t, "Section at "+row.what, got, e, wanted, row.e)
	}
	// Finished comes ahead of the plane.
	bad := bevels(27)
	bad.Members[0].Frame.Origin[0] = "-1/1" + zeros(599)
	_, e := joint.Section(bad, 0, "1/11")
	wantError(t, "Section with an error of Finished ahead of a plane that has no form", e, api.ErrMany)
}

func TestWeakest(t *testing.T) {
	twice := timbers([]api.Member{stick("P", origin(), "10", "4", "4"), stick("a", api.Vec{"7", "1", "-1"}, "1", "2", "2"), stick("b", api.Vec{"2", "1", "-1"}, "1", "2", "2")},
		tie("housing", "a", "P"), tie("housing", "b", "P"))
	inside := timbers([]api.Member{stick("P", origin(), "10", "4", "4"), stick("a", api.Vec{"1", "1", "1"}, "1", "1", "1")}, tie("birdsmouth", "a", "P"))
	for _, row := range []struct {
		what      string
		t         api.Timbers
		k         int
		at, share api.Rat
	}{
		{"P with the tenon", tenon(), 0, "5", "3/4"},
		{"Q with the tenon", tenon(), 1, "7", "1/2"},
		{"P without joints", pair(), 0, "5", "1"},
		{"P with a housing", joined("housing"), 0, "5", "3/4"},
		{"Q with a housing", joined("housing"), 1, "3", "1"},
		{"P with a birdsmouth", joined("birdsmouth"), 0, "2", "1"},
		{"Q with a birdsmouth", joined("birdsmouth"), 1, "7", "0"},
		{"P with a tenon at one end of the overlap", joined("tenon", "0", "8", "0", "1/2", "0", "2"), 0, "17/4", "3/4"},
		{"P with a tenon at the other end of the overlap", joined("tenon", "0", "8", "1", "7", "0", "2"), 0, "11/2", "3/4"},
		{"Q with a tenon that begins above its shoulders", joined("tenon", "7", "9", "1/2", "3/2", "0", "2"), 1, "13/2", "0"},
		{"Q with a dovetail", joined("dovetail", "6", "8", "1/2", "3/2", "0", "2", "1/4"), 1, "7", "3/4"},
		{"Q with a scarf", joined("scarf", "1/2", "7"), 1, "15/2", "0"},
		{"P with a lap", joined("lap", "1", "1"), 0, "5", "7/8"},
		{"P with a peg behind the tenon", pegged(), 0, "5", "11/16"},
		{"P with a peg alone", pair(tie("peg", "P", "Q", "5", "1", "1/4", "0", "4")), 0, "5", "7/8"},
		{"Q with a peg that passes it", pair(tie("peg", "P", "Q", "1", "1", "1/4", "0", "4")), 1, "4", "1"},
		{"P with a peg that passes Q", pair(tie("peg", "P", "Q", "1", "1", "1/4", "0", "4")), 0, "1", "7/8"},
		{"two places alike", twice, 0, "5/2", "7/8"},
		{"a joint beside it", twice, 2, "1/2", "1"},
		{"a member with another one inside", inside, 0, "1/2", "1"},
	} {
		got, e := two(joint.Weakest(row.t, row.k))
		wanted, _ := two(row.at, row.share, api.OK)
		want(t, "Weakest of "+row.what, got, e, wanted, api.OK)
	}
	got, e := two(joint.Weakest(inside, 1))
	wanted, _ := two(api.Rat(""), api.Rat(""), api.OK)
	want(t, "Weakest of what is taken as a whole", got, e, wanted, api.ErrEmpty)
	s, e := joint.Section(inside, 1, "1")
	want(t, "Section of what is taken as a whole", s, e, "0", api.OK)
}

// middles returns the middles of a member, by their definition.
func middles(r api.Timbers, k int) []api.Rat {
	m := r.Members[k]
	blank := func(name string) api.Solid { a, _ := memberOf(r, name); return sure(joint.Blank(a)) }
	solids := []api.Solid{sure(joint.Blank(m))}
	for i, j := range r.Joints {
		core := sure(joint.Core(r, i))
		overlap := sure(solid.And(blank(j.A), blank(j.B)))
		switch {
		case j.A != m.Name && j.B != m.Name:
		case j.Kind == "peg":
			solids = append(solids, sure(solid.And(solids[0], core)))
		default:
			solids = append(solids, overlap, sure(solid.And(overlap, core)))
		}
	}
	var places []api.Rat
	for _, s := range solids {
		for _, b := range s {
			for _, p := range sure(solid.Corners(b)) {
				places = append(places, sure(space.Local(m.Frame, p))[0])
			}
		}
	}
	return between(places)
}

// between returns the numbers half way between neighbours among the different ones of a list.
func between(places []api.Rat) []api.Rat {
	var middles []api.Rat
	least := func(above func(x api.Rat) bool) (least api.Rat) {
		for _, x := range places {
			if above(x) && (least == "" || sure(space.Compare(x, least)) < 0) {
				least = x
			}
		}
		return least
	}
	for x := least(func(api.Rat) bool { return true }); ; {
		next := least(func(y api.Rat) bool { return sure(space.Compare(y, x)) > 0 })
		if next == "" {
			return middles
		}
		middles = append(middles, sure(space.Div(sure(space.Add(x, next)), "2")))
		x = next
	}
}

// weakest returns the first middle with the least share, and this, by their definition.
func weakest(r api.Timbers, k int) (at, least api.Rat) {
	f := r.Members[k].Frame
	blank, finished := sure(joint.Blank(r.Members[k])), sure(joint.Finished(r, k))
	for _, middle := range middles(r, k) {
		h := sure(space.PlaceHalf(f, half(1, 0, 0, middle)))
		share := sure(space.Along(sure(solid.Section(blank, h)), sure(solid.Section(finished, h))))
		if least == "" || sure(space.Compare(share, least)) < 0 {
			at, least = middle, share
		}
	}
	return at, least
}

func TestWeakestOfAnyMembers(t *testing.T) {
	want(t, "the middles of example 3", middles(tenon(), 0), api.OK, []api.Rat{"2", "17/4", "5", "23/4", "8"}, api.OK)
	s := newSource(3)
	for range 12 {
		r := s.timbers(3)
		for k := range r.Members {
			if len(sure(joint.Finished(r, k))) == 0 {
				continue
			}
			at, share := weakest(r, k)
			got, e := two(joint.Weakest(r, k))
			wanted, _ := two(at, share, api.OK)
			want(t, "Weakest", got, e, wanted, api.OK)
			section, e := joint.Section(r, k, at)
			want(t, "Section", section, e, share, api.OK)
		}
	}
}

func TestWeight(t *testing.T) {
	for _, row := range []struct {
		what string
		t    api.Timbers
		want api.Rat
	}{
		{"nothing", api.Timbers{}, "0"},
		{"P and Q", pair(), "192"},
		{"P and Q with the tenon", tenon(), "184"},
		{"P and Q with the tenon and a peg", pegged(), "184"},
		{"P and Q with a peg that sticks out", pair(tie("peg", "P", "Q", "1", "1", "1/4", "0", "5")), "6151/32"},
	} {
		got, e := joint.Weight(row.t)
		want(t, "Weight of "+row.what, got, e, row.want, api.OK)
	}
}

func TestEdges(t *testing.T) {
	for _, row := range []struct {
		what, a, b string
		x, z, r    api.Rat
		want       api.Rat
	}{
		{"example 4", "P", "Q", "5", "1", "1/4", "3"},
		{"near the beginning", "P", "Q", "1/2", "2", "1/4", "1"},
		{"near the end", "P", "Q", "9", "2", "1/4", "3"},
		{"near the bottom", "P", "Q", "5", "3/4", "1/2", "1/2"},
		{"near the top", "P", "Q", "5", "7/2", "1/3", "1/2"},
		{"through an edge", "P", "Q", "5", "1/4", "1/2", "-1/2"},
		{"beyond the end", "P", "Q", "12", "2", "1", "-3"},
		{"below the beginning", "P", "Q", "-1", "2", "1", "-2"},
		{"above the top", "P", "Q", "5", "5", "1", "-2"},
		{"in Q", "Q", "P", "7", "1", "1/4", "3"},
		{"in Q, near its end", "Q", "P", "15/2", "1", "1/4", "1"},
	} {
		r := pair(tie("housing", "P", "Q"), tie("peg", row.a, row.b, row.x, row.z, row.r, "0", "4"))
		got, e := joint.Edges(r, 1)
		want(t, "Edges of a peg "+row.what, got, e, row.want, api.OK)
	}
}
