package joint_test

import (
	"slices"
	"testing"

	"trunnel/api"
	"trunnel/joint"
	"trunnel/solid"
	"trunnel/space"
)

// P3.5

func found(kind string, a, b, joined int, value api.Rat) joint.Finding {
	return joint.Finding{Kind: kind, A: a, B: b, Joint: joined, Value: value}
}

func rules(touch, wood, edge api.Rat) joint.Rules {
	return joint.Rules{Touch: touch, Wood: wood, Edge: edge}
}

// wantReport compares Report, and Accepts, with findings.
func wantReport(t *testing.T, what string, r api.Timbers, limits joint.Rules, wanted ...joint.Finding) {
	t.Helper()
	got, e := joint.Report(r, limits)
	want(t, "Report of "+what, got, e, wanted, api.OK)
	ok, e := joint.Accepts(r, limits)
	want(t, "Accepts of "+what, ok, e, len(wanted) == 0, api.OK)
}

// row returns members of the size 2, 2, 2, the first corners of which are in a row, so far from each other.
func row(names string, step int) api.Timbers {
	var r api.Timbers
	for i, name := range names {
		r.Members = append(r.Members, stick(string(name), api.Vec{integer(step * i), "0", "0"}, "2", "2", "2"))
	}
	return r
}

func TestReport(t *testing.T) {
	none := rules("0", "0", "0")
	wantReport(t, "nothing", api.Timbers{}, rules("1", "1", "1"))
	wantReport(t, "the tenon", tenon(), rules("4", "1/2", "1"))
	wantReport(t, "the tenon, just so", tenon(), rules("16", "1/2", "1"))
	wantReport(t, "members without joints", pair(), none, found("clash", 0, 1, -1, "8"))
	wantReport(t, "members that touch", row("ab", 2), rules("9", "1", "9"))
	wantReport(t, "members in a row", row("abcd", 1), none, found("clash", 0, 1, -1, "4"), found("clash", 1, 2, -1, "4"), found("clash", 2, 3, -1, "4"))
	wantReport(t, "members at one place", row("abc", 0), none, found("clash", 0, 1, -1, "8"), found("clash", 0, 2, -1, "8"), found("clash", 1, 2, -1, "8"))
	wantReport(t, "a gap and too little wood", tenon(), rules("17", "1", "1"), found("gap", -1, -1, 0, "16"), found("wood", 0, -1, -1, "3/4"), found("wood", 1, -1, -1, "1/2"))
	wantReport(t, "too little wood in Q", tenon(), rules("0", "3/4", "0"), found("wood", 1, -1, -1, "1/2"))
	wantReport(t, "a peg near an edge", pegged(), rules("0", "0", "4"), found("edge", -1, -1, 1, "3"))
	wantReport(t, "a peg that is not too near", pegged(), rules("0", "0", "3"))
	wantReport(t, "full sections, just so", row("ab", 2), rules("0", "1", "0"))
	wantReport(t, "more than full sections", row("ab", 2), rules("0", "1000001/1000000", "0"), found("wood", 0, -1, -1, "1"), found("wood", 1, -1, -1, "1"))
	apart := row("ab", 3)
	apart.Joints = []api.Joint{tie("housing", "b", "a")}
	wantReport(t, "a joint of members that are apart", apart, none, found("gap", -1, -1, 0, "0"))
	apart.Joints[0] = tie("peg", "b", "a", "1", "1", "1/4", "0", "2")
	wantReport(t, "a peg of members that are apart", apart, rules("9", "0", "0"))
	small := timbers([]api.Member{stick("P", origin(), "10", "4", "4"), stick("a", api.Vec{"1", "1", "1"}, "1", "1", "1")}, tie("birdsmouth", "a", "P"))
	wantReport(t, "a member of which nothing is left", small, none, found("gap", -1, -1, 0, "0"), found("wood", 1, -1, -1, "0"))
	wantReport(t, "a member that is cut through", joined("birdsmouth"), none)
	wantReport(t, "a member that is cut through, with a rule", joined("birdsmouth"), rules("0", "1/1000000", "0"), found("wood", 1, -1, -1, "0"))
}

// TestReportOfPegs has pegs in members that are not theirs, and in each other.
func TestReportOfPegs(t *testing.T) {
	r := row("abc", 2)
	r.Joints = []api.Joint{
		tie("peg", "b", "a", "-1", "1", "1/2", "0", "2"), // in a, which loses it
		tie("housing", "b", "c"),
		tie("peg", "a", "c", "1", "1", "1/2", "0", "2"), // in a again, at the same place
		tie("peg", "a", "c", "3", "1", "1/2", "0", "1"), // in b
		tie("peg", "c", "a", "-3", "1", "1/2", "-1", "2"),
		tie("peg", "b", "c", "1", "9", "1/2", "0", "2"), // above all
	}
	peg := api.Rat("7/8") // of the height 1
	twice := sure(space.Mul("2", peg))
	wantReport(t, "pegs", r, rules("16", "0", "0"),
		found("peg", 1, -1, 3, peg),
		found("pegs", 0, 2, -1, twice), found("pegs", 0, 4, -1, twice), found("pegs", 2, 4, -1, twice),
		found("edge", -1, -1, 0, "-3"), found("edge", -1, -1, 3, "-3"), found("edge", -1, -1, 4, "-7"), found("edge", -1, -1, 5, "-15"),
	)
}

// TestReportOfAllKinds has all kinds of findings in one report, in their order.
func TestReportOfAllKinds(t *testing.T) {
	r := pegged()
	r.Members = append(r.Members, stick("R", api.Vec{"9", "3", "3"}, "4", "4", "4"), stick("S", api.Vec{"4", "0", "-5"}, "2", "4", "1"))
	r.Joints = append(r.Joints, tie("peg", "Q", "P", "2", "1", "1/4", "-5", "5"), tie("housing", "R", "S"), tie("peg", "P", "Q", "5", "1", "1/8", "1", "3"))
	got, e := joint.Report(r, rules("17", "3/5", "4"))
	kinds := []string{}
	for _, f := range got {
		if len(kinds) == 0 || kinds[len(kinds)-1] != f.Kind {
			kinds = append(kinds, f.Kind)
		}
	}
	want(t, "the kinds of findings", kinds, e, []string{"clash", "peg", "pegs", "gap", "wood", "edge"}, api.OK)
	want(t, "Report", got, e, report(r, rules("17", "3/5", "4")), api.OK)
}

// report returns the findings, by their definition.
func report(r api.Timbers, limits joint.Rules) []joint.Finding {
	var list []joint.Finding
	less := func(a, b api.Rat) bool { return sure(space.Compare(a, b)) < 0 }
	overlap := func(a, b api.Solid, f joint.Finding) {
		if both := sure(solid.And(a, b)); len(both) > 0 {
			f.Value = volume(both)
			list = append(list, f)
		}
	}
	finished := func(k int) api.Solid { return sure(joint.Finished(r, k)) }
	pegs := map[int]api.Solid{}
	for i, j := range r.Joints {
		if j.Kind == "peg" {
			pegs[i] = sure(joint.Peg(r, i))
		}
	}
	for a := range r.Members {
		for b := a + 1; b < len(r.Members); b++ {
			overlap(finished(a), finished(b), found("clash", a, b, -1, ""))
		}
	}
	for i := range r.Joints {
		for k := range r.Members {
			overlap(pegs[i], finished(k), found("peg", k, -1, i, ""))
		}
	}
	for i := range r.Joints {
		for k := i + 1; k < len(r.Joints); k++ {
			overlap(pegs[i], pegs[k], found("pegs", i, k, -1, ""))
		}
	}
	for i, j := range r.Joints {
		_, a := memberOf(r, j.A)
		_, b := memberOf(r, j.B)
		most := api.Rat("0")
		for _, c := range sure(solid.Contacts(finished(a), finished(b))) {
			if square := sure(space.Square(c.Area)); less(most, square) {
				most = square
			}
		}
		if j.Kind != "peg" && (most == "0" || less(most, limits.Touch)) {
			list = append(list, found("gap", -1, -1, i, most))
		}
	}
	for k := range r.Members {
		_, share := weakest(r, k)
		if len(finished(k)) == 0 || less(share, limits.Wood) {
			list = append(list, found("wood", k, -1, -1, share))
		}
	}
	for i, j := range r.Joints {
		if j.Kind != "peg" {
			continue
		}
		if edges := sure(joint.Edges(r, i)); less(edges, limits.Edge) {
			list = append(list, found("edge", -1, -1, i, edges))
		}
	}
	return list
}

func TestReportOfAnyTimbers(t *testing.T) {
	s := newSource(4)
	for range 12 {
		r, limits := s.timbers(4), rules(s.rat(0, 2), s.rat(0, 1), s.rat(0, 2))
		wantReport(t, "any timbers", r, limits, report(r, limits)...)
	}
}

func TestRules(t *testing.T) {
	for _, row := range []struct {
		r joint.Rules
		e api.Errno
	}{
		{rules("0", "0", "0"), api.OK}, {rules("1/2", "3", "5/7"), api.OK},
		{rules("", "0", "0"), api.ErrForm}, {rules("0", "1.5", "0"), api.ErrForm}, {rules("0", "0", "2/4"), api.ErrForm},
		{rules("-1", "0", "0"), api.ErrRange}, {rules("0", "-1/2", "0"), api.ErrRange}, {rules("0", "0", "-1"), api.ErrRange},
		{rules("-1", "x", "0"), api.ErrRange}, {rules("0", "-1", digits(601)), api.ErrRange}, {rules("0", digits(601), "-1"), api.ErrLarge}, {rules("x", "-1", "-1"), api.ErrForm},
		{joint.Rules{}, api.ErrForm},
	} {
		_, e := joint.Report(tenon(), row.r)
		wantError(t, "Report with rules", e, row.e)
		ok, e := joint.Accepts(tenon(), row.r)
		if e != row.e || e != api.OK && ok {
			t.Errorf("Accepts with the rules %v: got %v, error %d, want error %d", row.r, ok, e, row.e)
		}
	}
	_, e := joint.Report(joined("tenon"), rules("x", "x", "x"))
	wantError(t, "Report of timbers with an error", e, api.ErrShape)
	_, e = joint.Report(bevels(27), rules("0", "0", "-1"))
	wantError(t, "Report with a wrong rule ahead of a finished member", e, api.ErrRange)
}

// combs returns two members at one place, cut through by so many plates each, in two directions: And of them has as many bodies
// as the product of their numbers of parts.
func combs(x, y int) api.Timbers {
	r := timbers([]api.Member{stick("a", origin(), "30", "30", "1"), stick("b", origin(), "30", "30", "1")})
	cut := func(name string, n int, at func(place api.Rat) api.Vec, size ...api.Rat) {
		for i := range n {
			plate := stick(name+string(integer(i)), at(integer(2*i+1)), size...)
			r.Members = append(r.Members, plate)
			r.Joints = append(r.Joints, tie("birdsmouth", name, plate.Name))
		}
	}
	cut("a", x, func(place api.Rat) api.Vec { return api.Vec{place, "-1", "-1"} }, "1", "32", "3")
	cut("b", y, func(place api.Rat) api.Vec { return api.Vec{"-1", place, "-1"} }, "32", "1", "3")
	return r
}

// TestErrorsOfReports has errors in their order.
func TestErrorsOfReports(t *testing.T) {
	thin := api.Rat("1/1" + string(zeros(301)))
	with := func(r api.Timbers, members []api.Member, joints ...api.Joint) api.Timbers {
		return api.Timbers{Members: append(r.Members, members...), Joints: append(r.Joints, joints...)}
	}
	// Their contact has an area with too many digits, and so has the volume of their overlap with each other, if they are not joined.
	needles := []api.Member{stick("c", api.Vec{"100", "0", "0"}, "1", thin, thin), stick("d", api.Vec{"101", "0", "0"}, "1", thin, thin)}
	clashing := []api.Member{needles[0], stick("e", api.Vec{"100", "0", "0"}, "2", thin, thin)}
	touching := tie("housing", "c", "d")
	wrong := tie("scarf", "b", "a", "1000000000", "1")
	// A peg that cuts off a corner of a body with 32 half-spaces, and takes nothing from it.
	corner := with(bevels(26), []api.Member{stick("x", api.Vec{"50", "0", "0"}, "1", "1", "1")}, tie("peg", "great", "x", "0", "0", "63/5", "0", "3"))
	for _, row := range []struct {
		what string
		t    api.Timbers
		e    api.Errno
		ok   api.Errno // of Accepts
	}{
		{"64 bodies in common", combs(7, 7), api.OK, api.OK},
		{"72 bodies in common", combs(7, 8), api.ErrMany, api.ErrMany},
		{"contacts ahead of pairs", with(combs(7, 8), needles, touching), api.ErrLarge, api.ErrLarge},
		{"contacts", with(combs(1, 1), needles, touching), api.ErrLarge, api.ErrLarge},
		{"a peg that has no contacts", with(combs(1, 1), needles, tie("peg", "c", "d", "5", "5", "1", "5", "6")), api.OK, api.OK},
		{"a peg and a member", corner, api.ErrMany, api.ErrMany},
		{"pairs ahead of values", with(combs(7, 8), clashing), api.ErrMany, api.ErrMany},
		{"a value", with(combs(7, 7), clashing), api.ErrLarge, api.OK},
		{"finished members ahead of contacts", with(combs(1, 1), needles, touching, wrong), api.ErrLarge, api.ErrLarge},
		{"the first finished member with an error", with(bevels(27), nil, tie("scarf", "great", "small", "1000000000", "1")), api.ErrMany, api.ErrMany},
		{"a finished member ahead of another one", with(api.Timbers{Members: slices.Concat([]api.Member{stick("a", origin(), "1", "1", "1"), stick("b", origin(), "1", "1", "1")}, bevels(27).Members), Joints: bevels(27).Joints}, nil, wrong), api.ErrLarge, api.ErrLarge},
	} {
		got, e := joint.Report(row.t, rules("0", "0", "0"))
		if e != row.e || e != api.OK && len(got) > 0 {
			t.Errorf("Report with %s: got %v, error %d; want error %d", row.what, got, e, row.e)
		}
		ok, e := joint.Accepts(row.t, rules("0", "0", "0"))
		want(t, "Accepts with "+row.what, ok, e, false, row.ok)
	}
}

// TestWeightErrors has errors in their order, and a sum with too many digits.
func TestWeightErrors(t *testing.T) {
	thin := api.Rat("1/1" + string(zeros(301)))
	for _, row := range []struct {
		what string
		t    api.Timbers
		e    api.Errno
	}{
		{"a small volume", timbers([]api.Member{stick("c", origin(), "1", thin, thin)}), api.ErrLarge},
		{"a finished member ahead of the sum", timbers(append(bevels(27).Members, stick("c", origin(), "1", thin, thin)), bevels(27).Joints...), api.ErrMany},
	} {
		got, e := joint.Weight(row.t)
		want(t, "Weight of "+row.what, got, e, "", row.e)
	}
}
