package raise_test

import (
	"slices"
	"testing"

	"trunnel/api"
	"trunnel/raise"
)

// Parts, Centre and Feet of P8.2, and P8.3

func TestPartsOfExamples(t *testing.T) {
	// Joints of any kind hold members together, whatever they take.
	kinds := row(6)
	kinds.Joints = []api.Joint{tie("peg", name(5), name(1), "1/2", "1/2", "1/4", "0", "1"), tie("lap", name(3), name(1), "1", "1/2"), tie("birdsmouth", name(0), name(4)), tie("housing", name(4), name(0))}
	for _, x := range []struct {
		what    string
		t       api.Timbers
		present []int
		parts   [][]int
	}{
		{"nothing", yard(), nil, nil},
		{"nothing of nothing", api.Timbers{}, []int{}, nil},
		{"one member", yard(), []int{2}, [][]int{{2}}},
		{"two members without the one between", yard(), []int{2, 0}, [][]int{{0}, {2}}},
		{"all members", yard(), []int{2, 0, 1}, [][]int{{0, 1, 2}}},
		{"members that only touch", row(3), []int{2, 1, 0}, [][]int{{0}, {1}, {2}}},
		{"members whose parts are among each other", kinds, []int{4, 5, 3, 2, 1, 0}, [][]int{{0, 4}, {1, 3, 5}, {2}}},
		{"members that hang together behind others", kinds, []int{5, 4, 3, 0}, [][]int{{0, 4}, {3}, {5}}},
		{"64 members", tower(64), upTo(64), [][]int{upTo(64)}},
		{"64 members without one", tower(64), slices.Delete(upTo(64), 40, 41), [][]int{upTo(40), upTo(64)[41:]}},
	} {
		got, e := raise.Parts(x.t, x.present)
		want(t, "Parts of "+x.what, got, e, x.parts, api.OK)
	}
}

func TestStagesOfAnyTimbers(t *testing.T) {
	s := newSource(4)
	count := map[string]int{}
	for range 70 {
		r := s.timbers(s.from(1, 6))
		solids := finishedOf(r)
		for range 4 {
			present, props := s.subset(len(r.Members)), s.subset(s.Intn(len(r.Members)+1))
			parts, e := raise.Parts(r, present)
			want(t, "Parts", parts, e, groupsOf(r, present), api.OK)
			feet, e := raise.Feet(r, present)
			want(t, "Feet", feet, e, cornersOf(feetOf(solids, present)), api.OK)
			wantCentre(t, r, solids, present)
			falling := fallingOf(r, solids, present, props)
			stands, e := raise.Stands(r, present, props)
			want(t, "Stands", stands, e, len(falling) == 0, api.OK)
			first, e := raise.Falling(r, present, props)
			if stands {
				want(t, "Falling", first, e, nil, api.ErrNone)
				count["standing"]++
				continue
			}
			want(t, "Falling", first, e, falling[0], api.OK)
			count["falling"]++
			if len(first) > 1 {
				count["falling together"]++
			}
			if len(first) < len(present) {
				count["falling alone"]++
			}
		}
	}
	for _, what := range []string{"standing", "falling", "falling together", "falling alone"} {
		if count[what] < 8 {
			t.Errorf("stages: %v", count)
		}
	}
}

// wantCentre compares Centre.
func wantCentre(t *testing.T, r api.Timbers, solids []api.Solid, present []int) {
	t.Helper()
	got, e := raise.Centre(r, present)
	centre, ok := centreOf(solids, present)
	if !ok {
		want(t, "Centre", got, e, api.Vec{}, api.ErrEmpty)
		return
	}
	want(t, "Centre", got, e, api.Vec{text(centre[0]), text(centre[1]), text(centre[2])}, api.OK)
}

// gone returns a member of which nothing is left, the one that takes it, and one beside both.
func gone() api.Timbers {
	return timbers([]api.Member{stick("key", "0 0 0", "1 1 1"), stick("block", "-1 -1 -1", "3 3 3"), stick("other", "5 0 0", "1 1 1")}, tie("birdsmouth", "key", "block"))
}

func TestCentreOfExamples(t *testing.T) {
	for _, x := range []struct {
		what    string
		t       api.Timbers
		present []int
		centre  string
	}{
		{"the sill", yard(), []int{0}, "5 1 1"},
		{"the sill and the post", yard(), []int{1, 0}, "5 1 5/2"},
		{"all", yard(), []int{0, 1, 2}, "20/3 1 4"},
		{"the heavy arm", heavy(), []int{0, 1, 2}, "501/58 1 173/29"},
		{"members that are not joined", row(4), []int{3, 0}, "2 1/2 1/2"},
		{"a member and one that is gone", gone(), []int{0, 2}, "11/2 1/2 1/2"},
		{"members that overlap, both of which weigh", timbers(gone().Members[:2]), []int{0, 1}, "1/2 1/2 1/2"},
		{"a slanting member", timbers([]api.Member{turned("a", "1 2 3", "2 4 6", "3/5 4/5 0", "-4/5 3/5 0", "0 0 1")}), []int{0}, "0 4 6"},
		{"what a joint leaves", timbers([]api.Member{stick("a", "0 0 0", "4 1 1"), stick("b", "2 0 0", "4 1 1")}, tie("birdsmouth", "a", "b")), []int{0}, "1 1/2 1/2"},
	} {
		got, e := raise.Centre(x.t, x.present)
		want(t, "Centre of "+x.what, got, e, vec(x.centre), api.OK)
	}
	got, e := raise.Centre(yard(), nil)
	want(t, "Centre of nothing", got, e, api.Vec{}, api.ErrEmpty)
	got, e = raise.Centre(api.Timbers{}, nil)
	want(t, "Centre of nothing of nothing", got, e, api.Vec{}, api.ErrEmpty)
	got, e = raise.Centre(gone(), []int{0})
	want(t, "Centre of a member that is gone", got, e, api.Vec{}, api.ErrEmpty)
}

func TestFeetOfExamples(t *testing.T) {
	leaning := turned("leaning", "0 0 0", "5 1 5", "3/5 0 4/5", "0 1 0", "-4/5 0 3/5")
	for _, x := range []struct {
		what    string
		t       api.Timbers
		present []int
		feet    string
	}{
		{"nothing", yard(), nil, ""},
		{"the sill", yard(), []int{0}, "0 0, 10 0, 10 2, 0 2"},
		{"the sill and the post", yard(), []int{1, 0}, "0 0, 10 0, 10 2, 0 2"},
		{"the post", yard(), []int{1}, ""},
		{"a sill in the ground", timbers([]api.Member{stick("a", "0 0 -1", "3 2 2")}), []int{0}, "0 0, 3 0, 3 2, 0 2"},
		{"a sill below the ground", timbers([]api.Member{stick("a", "0 0 -2", "3 2 2")}), []int{0}, "0 0, 3 0, 3 2, 0 2"},
		{"a sill far below the ground", timbers([]api.Member{stick("a", "0 0 -3", "3 2 2")}), []int{0}, ""},
		{"a sill just above the ground", timbers([]api.Member{stick("a", "0 0 1/"+string(digits(599)), "3 2 2")}), []int{0}, ""},
		{"one that stands on an edge", timbers([]api.Member{leaning}), []int{0}, "0 0, 0 1"},
		{"one that stands on a corner", timbers([]api.Member{turned("a", "7 8 0", "1 1 1", "2 -2 1", "1 2 2", "-2 -1 2")}), []int{0}, "7 8"},
		{"one that leans through the ground", timbers([]api.Member{turned("a", "0 0 -4", "5 1 5", "3/5 0 4/5", "0 1 0", "-4/5 0 3/5")}), []int{0}, "-13/4 0, 3 0, 3 1, -13/4 1"},
		{"two that are apart", timbers([]api.Member{stick("a", "0 0 0", "1 1 1"), stick("b", "5 5 -1", "1 1 9")}), []int{1, 0}, "0 0, 1 0, 6 5, 6 6, 5 6, 0 1"},
		{"two beside each other", row(4), []int{1, 0}, "0 0, 2 0, 2 1, 0 1"},
		{"one of two", row(4), []int{2}, "2 0, 3 0, 3 1, 2 1"},
		{"one that is gone", gone(), []int{0}, ""},
		{"what a joint leaves", timbers([]api.Member{stick("a", "0 0 0", "4 1 1"), stick("b", "2 0 0", "4 1 1")}, tie("birdsmouth", "a", "b")), []int{0}, "0 0, 2 0, 2 1, 0 1"},
		{"a foot in the middle of which something is taken", gone(), []int{1}, "-1 -1, 2 -1, 2 2, -1 2"},
	} {
		got, e := raise.Feet(x.t, x.present)
		want(t, "Feet of "+x.what, got, e, points(x.feet), api.OK)
	}
}

// table returns a top on four legs, the last one of which is missing in a second table.
func table() api.Timbers {
	return timbers([]api.Member{stick("leg1", "0 0 0", "1 1 4"), stick("leg2", "7 0 0", "1 1 4"), stick("leg3", "0 7 0", "1 1 4"), stick("leg4", "7 7 0", "1 1 4"), stick("top", "0 0 4", "8 8 1")},
		housings("leg1 top", "leg2 top", "leg3 top", "leg4 top")...)
}

// bracket returns a post with an arm of a length that sticks out of it.
func bracket(length string) api.Timbers {
	return timbers([]api.Member{stick("post", "0 0 0", "1 1 4"), stick("arm", "1 0 3", length+" 1 1")}, housings("post arm")...)
}

func TestStandsAndFallingOfExamples(t *testing.T) {
	twice := timbers(slices.Concat(bracket("3").Members, []api.Member{stick("post2", "0 9 0", "1 1 4"), stick("arm2", "1 9 3", "3 1 1")}), append(bracket("3").Joints, tie("housing", "post2", "arm2"))...)
	leaning := timbers([]api.Member{turned("a", "0 0 0", "4 1 3", "3/5 0 4/5", "0 1 0", "-4/5 0 3/5"), turned("b", "9 0 0", "4 1 5", "3/5 0 4/5", "0 1 0", "-4/5 0 3/5")})
	for _, x := range []struct {
		what           string
		t              api.Timbers
		present, props []int
		falling        []int
	}{
		{"nothing", yard(), nil, nil, nil},
		{"nothing with props", yard(), nil, []int{0, 1}, nil},
		{"nothing of nothing", api.Timbers{}, nil, nil, nil},
		{"the sill", yard(), []int{0}, nil, nil},
		{"the sill and the post", yard(), []int{1, 0}, nil, nil},
		{"all", yard(), []int{2, 1, 0}, nil, nil},
		{"the post", yard(), []int{1}, nil, []int{1}},
		{"the post as a prop", yard(), []int{1}, []int{1}, nil},
		{"the post with a prop that is not present", yard(), []int{1}, []int{0, 2}, []int{1}},
		{"the sill, and the arm that does not hang together with it", yard(), []int{2, 0}, nil, []int{2}},
		{"the sill as a prop, and the arm that does not hang together with it", yard(), []int{2, 0}, []int{0}, []int{2}},
		{"the arm as a prop", yard(), []int{0, 2}, []int{2}, nil},
		{"the post and the arm, a prop", yard(), []int{1, 2}, []int{2}, nil},
		{"the post and the arm", yard(), []int{2, 1}, nil, []int{1, 2}},
		{"the heavy arm", heavy(), []int{0, 1, 2}, nil, []int{0, 1, 2}},
		{"the heavy arm with a prop at the sill", heavy(), []int{0, 1, 2}, []int{0}, nil},
		{"the sill and the post below the heavy arm", heavy(), []int{0, 1}, nil, nil},
		{"a table", table(), upTo(5), nil, nil},
		{"legs", table(), []int{3, 1}, nil, nil},
		{"a table on two legs across, on whose edge it stands", table(), []int{0, 3, 4}, nil, nil},
		{"a table on two legs at a side", table(), []int{0, 1, 4}, nil, []int{0, 1, 4}},
		{"a table on two legs at a side, one of which is held", table(), []int{0, 1, 4}, []int{1}, nil},
		// The post has the weight 4, with its centre at 1/2, and the arm l, with 1 + l / 2: both are at 1 if l is 2.
		{"a post with an arm whose centre is on the edge", bracket("2"), []int{0, 1}, nil, nil},
		{"a post with an arm whose centre is just beyond", bracket("2000000001/1000000000"), []int{0, 1}, nil, []int{0, 1}},
		{"a post with an arm whose centre is just before", bracket("1999999999/1000000000"), []int{0, 1}, nil, nil},
		{"two posts with arms", twice, upTo(4), nil, []int{0, 1}},
		{"two posts with arms, the first one of which is held", twice, upTo(4), []int{1}, []int{2, 3}},
		{"two posts with arms that are held", twice, upTo(4), []int{3, 0}, nil},
		{"a member that is gone", gone(), []int{0}, nil, nil},
		{"a member with one that is gone", gone(), []int{2, 0}, nil, nil},
		{"one that is gone, and one that does not stand", timbers(append(gone().Members, stick("high", "9 9 9", "1 1 1")), gone().Joints[0], tie("housing", "high", "key")), []int{0, 3}, nil, []int{0, 3}},
		{"one that is balanced on an edge", leaning, []int{0}, nil, nil},
		{"one that falls from an edge", leaning, []int{1, 0}, nil, []int{1}},
		{"one below the ground", timbers([]api.Member{stick("a", "0 0 -5", "1 1 1")}), []int{0}, nil, []int{0}},
		{"64 members", tower(64), upTo(64), nil, nil},
		{"63 members without the one below", tower(64), upTo(64)[1:], nil, upTo(64)[1:]},
		{"all of 64 members as props", tower(64), upTo(64)[1:], upTo(64), nil},
	} {
		stands, e := raise.Stands(x.t, x.present, x.props)
		want(t, "Stands of "+x.what, stands, e, x.falling == nil, api.OK)
		wantedErr := api.OK
		if x.falling == nil {
			wantedErr = api.ErrNone
		}
		falling, e := raise.Falling(x.t, x.present, x.props)
		want(t, "Falling of "+x.what, falling, e, x.falling, wantedErr)
	}
}

// slanting returns a member on the ground whose corners have more digits than its planes.
func slanting() api.Timbers {
	return timbers([]api.Member{turned("a", "0 0 0", "1/"+string(ten(600))+" 1/"+string(digits(599))+" 1", "3/5 4/5 0", "-4/5 3/5 0", "0 0 1")})
}

func TestLargeNumbersOfStages(t *testing.T) {
	thin := func(den api.Rat) api.Timbers {
		return timbers([]api.Member{stick("a", "0 0 0", "1/"+string(den)+" 1 1")})
	}
	got, e := raise.Centre(thin(ten(600)), []int{0})
	want(t, "Centre of a thin member", got, e, api.Vec{"1/2" + ten(600)[1:], "1/2", "1/2"}, api.OK)
	feet, e := raise.Feet(thin(ten(600)), []int{0})
	want(t, "Feet of a thin member", feet, e, [][2]api.Rat{{"0", "0"}, {"1/" + ten(600), "0"}, {"1/" + ten(600), "1"}, {"0", "1"}}, api.OK)
	five := "5" + ten(600)[1:]
	got, e = raise.Centre(thin(five), []int{0})
	want(t, "Centre of a member that is too thin", got, e, api.Vec{}, api.ErrLarge)
	feet, e = raise.Feet(thin(five), []int{0})
	want(t, "Feet of a member that is too thin for its centre", len(feet), e, 4, api.OK)
	feet, e = raise.Feet(slanting(), []int{0})
	want(t, "Feet of a slanting member", feet, e, nil, api.ErrLarge)
	for _, r := range []api.Timbers{thin(five), slanting()} {
		stands, e := raise.Stands(r, []int{0}, nil)
		want(t, "Stands of a thin member", stands, e, true, api.OK)
		falling, e := raise.Falling(r, []int{0}, nil)
		want(t, "Falling of a thin member", falling, e, nil, api.ErrNone)
		order, e := raise.Order(r, ways(), nil)
		want(t, "Order of a thin member", order, e, moves("a 0"), api.OK)
	}
}
