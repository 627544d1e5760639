package joint_test

import (
	"cmp"
	"maps"
	"math/big"
	"reflect"
	"slices"
	"strconv"
	"testing"

	"trunnel/api"
	"trunnel/joint"
	"trunnel/solid"
	"trunnel/space"
)

// P3.2

// octagon returns the peg of example 4.
func octagon() api.Body {
	return api.Body{
		half(-1, 0, -1, "-45/8"), half(-1, 0, 0, "-19/4"), half(-1, 0, 1, "-29/8"), half(0, -1, 0, "0"), half(0, 0, -1, "-3/4"),
		half(0, 0, 1, "5/4"), half(0, 1, 0, "4"), half(1, 0, -1, "35/8"), half(1, 0, 0, "21/4"), half(1, 0, 1, "51/8"),
	}
}

func TestCores(t *testing.T) {
	blank := block("4", "1", "-6", "6", "3", "2")
	// In the frame of Q x is z of space, y is x - 4, and z is y - 1.
	for _, row := range []struct {
		what string
		j    api.Joint
		core api.Solid
	}{
		{"a housing", tie("housing", "Q", "P"), api.Solid{blank}},
		{"a birdsmouth", tie("birdsmouth", "Q", "P"), nil},
		{"the tenon", tie("tenon", "Q", "P", "0", "8", "1/2", "3/2", "0", "2"), api.Solid{block("9/2", "1", "-6", "11/2", "3", "2")}},
		{"a tenon inside", tie("tenon", "Q", "P", "1", "2", "1/2", "3/2", "1/4", "2/3"), api.Solid{block("9/2", "5/4", "-5", "11/2", "5/3", "-4")}},
		{"a tenon that is greater", tie("tenon", "Q", "P", "-1", "9", "-1", "3", "-1", "3"), api.Solid{blank}},
		{"a tenon beyond x", tie("tenon", "Q", "P", "8", "9", "0", "2", "0", "2"), nil},
		{"a tenon beyond y", tie("tenon", "Q", "P", "0", "8", "2", "3", "0", "2"), nil},
		{"a tenon below z", tie("tenon", "Q", "P", "0", "8", "0", "2", "-1", "0"), nil},
		{"a lap", tie("lap", "Q", "P", "1", "1/2"), api.Solid{block("4", "1", "-6", "6", "3/2", "2")}},
		{"a lap on the other side", tie("lap", "Q", "P", "-1", "1/2"), api.Solid{block("4", "3/2", "-6", "6", "3", "2")}},
		{"a lap of all", tie("lap", "Q", "P", "1", "2"), api.Solid{blank}},
		{"a lap of nothing", tie("lap", "Q", "P", "-1", "2"), nil},
		{"a scarf across", tie("scarf", "Q", "P", "0", "7"), api.Solid{block("4", "1", "-6", "6", "3", "1")}},
		{"a scarf", tie("scarf", "Q", "P", "1/2", "7"), api.Solid{{blank[0], blank[1], blank[2], blank[4], half(0, 1, 2, "3"), blank[5]}}},
		{"a scarf of nothing", tie("scarf", "Q", "P", "3", "0"), nil},
		{"a dovetail that does not widen", tie("dovetail", "Q", "P", "1", "2", "1/2", "3/2", "1/4", "2/3", "0"), api.Solid{block("9/2", "5/4", "-5", "11/2", "5/3", "-4")}},
		{"a dovetail", tie("dovetail", "Q", "P", "6", "8", "1/2", "3/2", "0", "2", "1/8"), api.Solid{
			{half(-8, 0, -1, "-36"), blank[1], half(0, 0, -1, "0"), half(0, 0, 1, "2"), blank[4], half(8, 0, -1, "44")}}},
		{"a peg", tie("peg", "P", "Q", "5", "1", "1/4", "0", "4"), api.Solid{octagon()}},
	} {
		got, e := joint.Core(pair(row.j), 0)
		want(t, "Core of "+row.what, got, e, row.core, api.OK)
	}
}

func TestTaken(t *testing.T) {
	for _, row := range []struct {
		what string
		j    api.Joint
		a, b api.Solid
	}{
		{"a housing", tie("housing", "Q", "P"), nil, api.Solid{block("4", "1", "0", "6", "3", "2")}},
		{"a housing the other way", tie("housing", "P", "Q"), nil, api.Solid{block("4", "1", "0", "6", "3", "2")}},
		{"a birdsmouth", tie("birdsmouth", "Q", "P"), api.Solid{block("4", "1", "0", "6", "3", "2")}, nil},
		{"the tenon", tie("tenon", "Q", "P", "0", "8", "1/2", "3/2", "0", "2"),
			api.Solid{block("4", "1", "0", "9/2", "3", "2"), block("11/2", "1", "0", "6", "3", "2")}, api.Solid{block("9/2", "1", "0", "11/2", "3", "2")}},
		{"a lap", tie("lap", "Q", "P", "1", "1"), api.Solid{block("4", "2", "0", "6", "3", "2")}, api.Solid{block("4", "1", "0", "6", "2", "2")}},
		{"a scarf below the overlap", tie("scarf", "Q", "P", "0", "6"), api.Solid{block("4", "1", "0", "6", "3", "2")}, nil},
		{"a scarf above the overlap", tie("scarf", "Q", "P", "0", "8"), nil, api.Solid{block("4", "1", "0", "6", "3", "2")}},
		{"a peg", tie("peg", "P", "Q", "5", "1", "1/4", "0", "4"), api.Solid{octagon()}, sure(solid.And(api.Solid{octagon()}, api.Solid{block("4", "1", "-6", "6", "3", "2")}))},
		{"a peg that sticks out", tie("peg", "P", "Q", "5", "1", "1/4", "-2", "2"),
			sure(solid.Cut(api.Solid{octagon()}, half(0, 1, 0, "2"))), sure(solid.And(api.Solid{octagon()}, api.Solid{block("4", "1", "0", "6", "2", "2")}))},
		{"a peg beside A", tie("peg", "P", "Q", "5", "-1", "1/4", "1", "2"), nil, sure(solid.Move(sure(solid.And(api.Solid{octagon()}, api.Solid{block("4", "1", "0", "6", "2", "2")})), plain(api.Vec{"0", "0", "-2"})))},
		{"a peg beside both", tie("peg", "P", "Q", "5", "1", "1/4", "8", "9"), nil, nil},
	} {
		a, b, e := joint.Taken(pair(row.j), 0)
		want(t, "what "+row.what+" takes from A", a, e, row.a, api.OK)
		want(t, "what "+row.what+" takes from B", b, e, row.b, api.OK)
	}
	for i := range 2 {
		_, _, e := joint.Taken(pegged(), i)
		wantError(t, "Taken", e, api.OK)
	}
}

// TestVolumesTaken has the volumes of the examples 1 and 5.
func TestVolumesTaken(t *testing.T) {
	for _, row := range []struct {
		t    api.Timbers
		want [2]api.Rat
	}{
		{tenon(), [2]api.Rat{"4", "4"}}, {joined("housing"), [2]api.Rat{"0", "8"}}, {joined("birdsmouth"), [2]api.Rat{"8", "0"}}, {joined("lap", "1", "1"), [2]api.Rat{"4", "4"}},
		{joined("lap", "-1", "1/2"), [2]api.Rat{"2", "6"}}, {joined("scarf", "0", "7"), [2]api.Rat{"4", "4"}}, {joined("scarf", "1", "7"), [2]api.Rat{"7", "1"}}, {joined("dovetail", "6", "8", "1/2", "3/2", "0", "2", "1/4"), [2]api.Rat{"2", "6"}},
	} {
		want(t, "the volumes that a "+row.t.Joints[0].Kind+" takes", volumes(row.t, 0), api.OK, row.want, api.OK)
	}
}

func TestPeg(t *testing.T) {
	r := pegged()
	got, e := joint.Peg(r, 1)
	want(t, "Peg", got, e, api.Solid{octagon()}, api.OK)
	want(t, "the volume of the peg", volume(got), api.OK, "7/8", api.OK)
	core, e := joint.Core(r, 1)
	want(t, "Core of a peg", core, e, got, api.OK)
	got, e = joint.Peg(r, 0)
	want(t, "Peg of a tenon", got, e, nil, api.ErrKind)
	for kind, numbers := range kindNumbers() {
		wanted := api.ErrKind
		if kind == "peg" {
			wanted = api.OK
		}
		_, e := joint.Peg(joined(kind, numbers...), 0)
		wantError(t, "Peg of a "+kind, e, wanted)
		_, e = joint.Edges(joined(kind, numbers...), 0)
		wantError(t, "Edges of a "+kind, e, wanted)
	}
}

func TestFinished(t *testing.T) {
	for _, row := range []struct {
		what string
		t    api.Timbers
		p, q api.Solid
	}{
		{"no joints", pair(), api.Solid{block("0", "0", "0", "10", "4", "4")}, api.Solid{block("4", "1", "-6", "6", "3", "2")}},
		{"the tenon", tenon(),
			api.Solid{block("0", "0", "0", "9/2", "4", "4"), block("9/2", "0", "0", "10", "1", "4"), block("9/2", "1", "2", "10", "4", "4"), block("9/2", "3", "0", "10", "4", "2"), block("11/2", "1", "0", "10", "3", "2")},
			api.Solid{block("9/2", "1", "-6", "6", "3", "2"), block("4", "1", "-6", "9/2", "3", "0")}},
		{"a housing", joined("housing"),
			api.Solid{block("0", "0", "0", "4", "4", "4"), block("4", "0", "0", "10", "1", "4"), block("4", "1", "2", "10", "4", "4"), block("4", "3", "0", "10", "4", "2"), block("6", "1", "0", "10", "3", "2")},
			api.Solid{block("4", "1", "-6", "6", "3", "2")}},
		{"a birdsmouth", joined("birdsmouth"), api.Solid{block("0", "0", "0", "10", "4", "4")}, api.Solid{block("4", "1", "-6", "6", "3", "0")}},
		{"two joints, the first one of which takes all", pair(tie("birdsmouth", "Q", "P"), tie("housing", "Q", "P")),
			api.Solid{block("0", "0", "0", "4", "4", "4"), block("4", "0", "0", "10", "1", "4"), block("4", "1", "2", "10", "4", "4"), block("4", "3", "0", "10", "4", "2"), block("6", "1", "0", "10", "3", "2")},
			api.Solid{block("4", "1", "-6", "6", "3", "0")}},
	} {
		if row.what == "the tenon" { // Minus takes two pieces away, one after the other
			row.q = sure(solid.Minus(sure(joint.Blank(post())), api.Solid{block("4", "1", "0", "9/2", "3", "2"), block("11/2", "1", "0", "6", "3", "2")}))
			want(t, "the volume of Q", volume(row.q), api.OK, "28", api.OK)
			want(t, "the volume of P", volume(row.p), api.OK, "156", api.OK)
		}
		got, e := joint.Finished(row.t, 0)
		want(t, "the finished P with "+row.what, got, e, row.p, api.OK)
		got, e = joint.Finished(row.t, 1)
		want(t, "the finished Q with "+row.what, got, e, row.q, api.OK)
	}
}

// TestOrderOfJoints has bodies that depend on the order in which joints take them.
func TestOrderOfJoints(t *testing.T) {
	low, high := tie("lap", "Q", "P", "1", "1/2"), tie("lap", "Q", "P", "-1", "3/2")
	for _, joints := range [][]api.Joint{{low, high}, {high, low}} {
		r := pair(joints...)
		wanted := sure(joint.Blank(beam()))
		for i := range joints {
			_, taken, _ := joint.Taken(r, i)
			wanted = sure(solid.Minus(wanted, taken))
		}
		got, e := joint.Finished(r, 0)
		want(t, "the finished P with two laps", got, e, wanted, api.OK)
	}
	first, _ := joint.Finished(pair(low, high), 0)
	second, _ := joint.Finished(pair(high, low), 0)
	if slices.EqualFunc(first, second, slices.Equal) {
		t.Error("the order of two laps makes no difference")
	}
	want(t, "the solids of both orders are the same", sure(solid.Same(first, second)), api.OK, true, api.OK)
}

// excess returns a number for coordinates in the frame of A that is below 0 where all half-spaces of the chapter's table hold strictly,
// and above 0 where one of them does not hold.
func excess(j api.Joint, c [3]*big.Rat) *big.Rat {
	var n []*big.Rat
	for _, text := range j.Numbers {
		n = append(n, bigOf(text))
	}
	sub := func(a, b *big.Rat) *big.Rat { return new(big.Rat).Sub(a, b) }
	mul := func(a, b *big.Rat) *big.Rat { return new(big.Rat).Mul(a, b) }
	between := func(x, low, high *big.Rat) []*big.Rat { return []*big.Rat{sub(low, x), sub(x, high)} }
	x, y, z := c[0], c[1], c[2]
	all := []*big.Rat{big.NewRat(-1, 1)}
	switch j.Kind {
	case "tenon":
		all = slices.Concat(between(x, n[0], n[1]), between(y, n[2], n[3]), between(z, n[4], n[5]))
	case "lap":
		all = []*big.Rat{sub(mul(n[0], z), mul(n[0], n[1]))}
	case "scarf":
		all = []*big.Rat{sub(sub(x, n[1]), mul(new(big.Rat).Neg(n[0]), z))}
	case "dovetail":
		wider := mul(n[6], sub(x, n[0]))
		all = slices.Concat(between(x, n[0], n[1]), between(y, sub(n[2], wider), new(big.Rat).Add(n[3], wider)), between(z, n[4], n[5]))
	case "birdsmouth":
		all = []*big.Rat{big.NewRat(1, 1)}
	case "peg":
		dx, dz := new(big.Rat).Abs(sub(x, n[0])), new(big.Rat).Abs(sub(z, n[1]))
		sum := new(big.Rat).Add(dx, dz)
		all = append(between(y, n[3], n[4]), sub(dx, n[2]), sub(dz, n[2]), sub(sum, mul(big.NewRat(3, 2), n[2])))
	}
	return slices.MaxFunc(all, (*big.Rat).Cmp)
}

// Sides of a point are -1 inside of a set, 1 outside, and 0 on its boundary, or perhaps there.
// Those of a set that both have in common, and of a difference, are these:

func andOf(a, b int) int { return max(a, b) }

func minusOf(a, b int) int { return max(a, -b) }

// sideOfBlank returns that of a point and the blank of a member.
func sideOfBlank(m api.Member, p api.Vec) int {
	side := -1
	size := bigVec(m.Size)
	for i, x := range coordinates(m.Frame, p) {
		side = max(side, -x.Sign(), x.Cmp(size[i]))
	}
	return side
}

// sideOfCore returns that of a point and the core of a joint of A.
func sideOfCore(j api.Joint, a api.Member, p api.Vec) int {
	side := excess(j, coordinates(a.Frame, p)).Sign()
	if j.Kind == "peg" {
		return side
	}
	return andOf(side, sideOfBlank(a, p))
}

// sidesTaken returns those of a point and what a joint takes from A and from B.
func sidesTaken(j api.Joint, a, b api.Member, p api.Vec) [2]int {
	ofA, ofB, core := sideOfBlank(a, p), sideOfBlank(b, p), sideOfCore(j, a, p)
	if j.Kind == "peg" {
		return [2]int{andOf(ofA, core), andOf(ofB, core)}
	}
	overlap := andOf(ofA, ofB)
	return [2]int{minusOf(overlap, core), andOf(overlap, core)}
}

// wantSide compares a side with the position in a solid.
func wantSide(t *testing.T, what string, s api.Solid, p api.Vec, side int) {
	t.Helper()
	if got := sure(solid.Position(s, p)); side != 0 && got != -side {
		t.Errorf("%s: the position of %v is %d, and has to be %d", what, p, got, -side)
	}
}

// memberOf returns the member with a name, and its number.
func memberOf(t api.Timbers, name string) (api.Member, int) {
	k := slices.IndexFunc(t.Members, func(m api.Member) bool { return m.Name == name })
	return t.Members[k], k
}

// pointsNear returns points in and near the blank of a member.
func (s source) pointsNear(m api.Member, n int) []api.Vec {
	points := make([]api.Vec, n)
	for i := range points {
		c := origin()
		for k := range c {
			c[k] = sure(space.Mul(sure(space.Of(s.Intn(16)-2, 12)), m.Size[k]))
		}
		points[i] = sure(space.Place(m.Frame, c))
	}
	return points
}

// TestWorkOfAnyJoints compares solids with the inequalities of the definitions, point by point.
func TestWorkOfAnyJoints(t *testing.T) {
	s := newSource(2)
	for _, kind := range slices.Sorted(maps.Keys(kindNumbers())) {
		inside := [2]int{}
		for round := 0; round < 6 || (inside[0] == 0 || inside[1] == 0) && round < 20; round++ {
			r := s.timbers(3)
			a, b := r.Members[round%2], r.Members[1-round%2]
			r.Joints = append(r.Joints, s.joint(kind, a.Name, b.Name))
			i := len(r.Joints) - 1
			core := sure(joint.Core(r, i))
			fromA, fromB, e := joint.Taken(r, i)
			wantError(t, "Taken", e, api.OK)
			finished := [2]api.Solid{sure(joint.Finished(r, round%2)), sure(joint.Finished(r, 1-round%2))}
			points := slices.SortedStableFunc(slices.Values(s.pointsNear(a, 30)), func(p, q api.Vec) int {
				return cmp.Compare(sideOfBlank(b, p), sideOfBlank(b, q)) // first those that are in both
			})
			for _, p := range append(points[:9], s.pointsNear(b, 4)...) {
				wantSide(t, "Core of "+kind, core, p, sideOfCore(r.Joints[i], a, p))
				taken := sidesTaken(r.Joints[i], a, b, p)
				wantSide(t, "what "+kind+" takes from A", fromA, p, taken[0])
				wantSide(t, "what "+kind+" takes from B", fromB, p, taken[1])
				wantSide(t, "the finished A of "+kind, finished[0], p, sideOfFinished(r, round%2, p))
				wantSide(t, "the finished B of "+kind, finished[1], p, sideOfFinished(r, 1-round%2, p))
				for side, n := range taken {
					if n < 0 {
						inside[side]++
					}
				}
			}
		}
		if kind != "housing" && inside[0] == 0 || kind != "birdsmouth" && inside[1] == 0 {
			t.Errorf("of the points %v were in what %s takes", inside, kind)
		}
	}
}

// sideOfFinished returns that of a point and a finished member.
func sideOfFinished(r api.Timbers, k int, p api.Vec) int {
	side := sideOfBlank(r.Members[k], p)
	for _, j := range r.Joints {
		a, l := memberOf(r, j.A)
		b, m := memberOf(r, j.B)
		for i, n := range []int{l, m} {
			if n == k {
				side = minusOf(side, sidesTaken(j, a, b, p)[i])
			}
		}
	}
	return side
}

// TestErrorsOfHalfSpaces has half-spaces that have no form in coordinates, or not in space.
func TestErrorsOfHalfSpaces(t *testing.T) {
	stretched := post()
	stretched.Frame.X, stretched.Frame.Z = api.Vec{"0", "0", "2"}, api.Vec{"0", "1000000000", "0"}
	far := post()
	far.Frame.Origin[2] = "1/1" + zeros(599)
	// The sum of y0 and s x0 has 601 digits in its denominator, the half-space that it belongs to has 600.
	b, d := "9"+zeros(298)+"1", "9"+zeros(298)+"9"
	sum := api.Joint{Kind: "dovetail", A: "Q", B: "P", Numbers: []api.Rat{"1/" + d, "1", sure(space.Div("1", sure(space.Mul("7", b)))), "1", "0", "1", "1/7"}}
	for _, row := range []struct {
		what string
		q    api.Member
		j    api.Joint
		e    api.Errno
	}{
		{"a steep scarf", post(), tie("scarf", "Q", "P", "999999999", "1"), api.OK},
		{"a scarf that is too steep", post(), tie("scarf", "Q", "P", "1000000000", "1"), api.ErrLarge},
		{"a scarf with a great denominator", post(), tie("scarf", "Q", "P", "1/1000000000", "1"), api.ErrLarge},
		{"a scarf that is too steep in coordinates alone", stretched, tie("scarf", "Q", "P", "1000000000", "1"), api.ErrLarge},
		{"a scarf that is too steep in space alone", stretched, tie("scarf", "Q", "P", "1/3", "1"), api.ErrLarge},
		{"a scarf far away", far, tie("scarf", "Q", "P", "0", "1/7"), api.OK},
		{"a scarf that is too far away", far, tie("scarf", "Q", "P", "0", "1/11"), api.ErrLarge},
		{"a dovetail that is too flat", post(), tie("dovetail", "Q", "P", "0", "1", "0", "1", "0", "1", "1/1000000000"), api.ErrLarge},
		{"a dovetail with a large shift", post(), tie("dovetail", "Q", "P", "1/"+digits(599), "1", "0", "1", "0", "1", "1"), api.OK},
		{"a dovetail with a shift that is too large", post(), tie("dovetail", "Q", "P", "1/"+digits(600), "1", "0", "1/"+digits(300)+"1", "0", "1", "1"), api.ErrLarge},
		{"a dovetail with a large number on the way", stick("Q", origin(), "8", "2", "2"), sum, api.OK},
		{"a tenon that is too far away", far, tie("tenon", "Q", "P", "0", "1/11", "0", "1", "0", "1"), api.ErrLarge},
		{"a peg with large sums", post(), tie("peg", "Q", "P", digits(600), "0", digits(600), "0", "1"), api.ErrLarge},
		{"a lap that is far away", post(), tie("lap", "Q", "P", "1", digits(600)), api.OK},
		{"a core behind nothing", far, tie("tenon", "Q", "P", "-2", "-1", "0", "1", "0", "1"), api.OK},
		{"an error behind nothing", stretched, tie("dovetail", "Q", "P", "-2", "-1", "0", "1", "0", "1", "1/1000000000"), api.ErrLarge},
	} {
		r := timbers([]api.Member{beam(), row.q}, row.j)
		wantError(t, "CheckTimbers of "+row.what, joint.CheckTimbers(r), api.OK)
		_, e := joint.Core(r, 0)
		wantError(t, "Core of "+row.what, e, row.e)
		a, b, e := joint.Taken(r, 0)
		wantError(t, "Taken of "+row.what, e, row.e)
		if e != api.OK {
			want(t, "Taken of "+row.what, slices.Concat(a, b), api.OK, nil, api.OK)
		}
		for k := range r.Members {
			_, e := joint.Finished(r, k)
			wantError(t, "Finished of "+row.what, e, row.e)
		}
		if row.e != api.OK {
			wantErrors(t, row.what, r, row.e)
		}
	}
}

// wantErrors has the same error for all functions that need the finished members of a joint.
func wantErrors(t *testing.T, what string, r api.Timbers, wanted api.Errno) {
	t.Helper()
	rules := joint.Rules{Touch: "0", Wood: "0", Edge: "0"}
	for name, call := range map[string]func() (any, api.Errno){
		"Section":      func() (any, api.Errno) { return one(joint.Section(r, 0, "1")) },
		"Weakest":      func() (any, api.Errno) { return two(joint.Weakest(r, 0)) },
		"Section of B": func() (any, api.Errno) { return one(joint.Section(r, 1, "1")) },
		"Weakest of B": func() (any, api.Errno) { return two(joint.Weakest(r, 1)) },
		"Contacts":     func() (any, api.Errno) { return one(joint.Contacts(r, 0)) },
		"Weight":       func() (any, api.Errno) { return one(joint.Weight(r)) },
		"Report":       func() (any, api.Errno) { return one(joint.Report(r, rules)) },
		"Accepts":      func() (any, api.Errno) { return one(joint.Accepts(r, rules)) },
	} {
		result, e := call()
		wantError(t, name+" of "+what, e, wanted)
		if v := reflect.ValueOf(result); !v.IsZero() {
			t.Errorf("%s of %s: got %v beside an error", name, what, result)
		}
	}
	if r.Joints[0].Kind == "peg" {
		_, e := joint.Peg(r, 0)
		wantError(t, "Peg of "+what, e, wanted)
	}
}

// plates returns a beam with so many thin plates across, each of which cuts it through.
func plates(n int) api.Timbers {
	r := timbers([]api.Member{stick("beam", origin(), "200", "1", "1")})
	for i := range n {
		plate := stick("p"+strconv.Itoa(i), api.Vec{integer(2*i + 1), "-1", "-1"}, "1", "3", "3")
		r.Members = append(r.Members, plate)
		r.Joints = append(r.Joints, tie("birdsmouth", "beam", plate.Name))
	}
	return r
}

// bevels returns a small box in a great one, with so many scarfs that take slices from an edge of the small one:
// one after the other, they leave a body with a facet for each of them.
func bevels(n int) api.Timbers {
	r := timbers([]api.Member{stick("small", origin(), "10", "1", "10"), stick("great", api.Vec{"0", "-1", "0"}, "12", "3", "12")})
	for i := 1; i <= n; i++ {
		// The planes touch the parabola 10 z = (x - 10)^2 where x = i / 4.
		k, d := sure(space.Of(20, 40-i)), sure(space.Of(40+i, 8))
		r.Joints = append(r.Joints, tie("scarf", "great", "small", k, d))
	}
	return r
}

func TestFinishedLimits(t *testing.T) {
	notched := plates(63)
	notched.Members[63].Size[1] = "3/2" // it leaves half of the beam
	wrong := tie("scarf", "great", "small", "1000000000", "1")
	before, behind := bevels(27), bevels(27)
	before.Joints = slices.Insert(before.Joints, 26, wrong)
	behind.Joints = append(behind.Joints, wrong)
	for _, row := range []struct {
		what           string
		t              api.Timbers
		bodies, halves int
		e              api.Errno
	}{
		{"63 plates", plates(63), 64, 64 * 6, api.OK},
		{"62 plates and a notch", notched, 0, 0, api.ErrMany},
		{"26 bevels", bevels(26), 1, 32, api.OK},
		{"27 bevels", bevels(27), 0, 0, api.ErrMany},
		{"an error of Taken ahead of that of Minus", before, 0, 0, api.ErrLarge},
		{"an error of Taken behind that of Minus", behind, 0, 0, api.ErrMany},
	} {
		s, e := joint.Finished(row.t, 0)
		want(t, "the bodies of "+row.what, len(s), e, row.bodies, row.e)
		want(t, "the half-spaces of "+row.what, len(slices.Concat(s...)), e, row.halves, row.e)
		_, e = joint.Section(row.t, 0, "1")
		wantError(t, "Section of "+row.what, e, row.e)
		_, _, e = joint.Weakest(row.t, 0)
		wantError(t, "Weakest of "+row.what, e, row.e)
		_, e = joint.Weight(row.t)
		wantError(t, "Weight of "+row.what, e, row.e)
		// Of the bevels the great box is A: its error comes first.
		wanted := row.e
		if _, ofOther := joint.Finished(row.t, 1); ofOther != api.OK {
			wanted = api.ErrLarge
			wantError(t, "Finished of the other member of "+row.what, ofOther, api.ErrLarge)
		}
		_, e = joint.Contacts(row.t, 0)
		wantError(t, "Contacts of "+row.what, e, wanted)
	}
}
