package joint_test

import (
	"strconv"
	"strings"
	"testing"

	"trunnel/api"
	"trunnel/joint"
	"trunnel/space"
)

// P3.1

// changed returns P with a change.
func changed(change func(m *api.Member)) api.Member {
	m := beam()
	change(&m)
	return m
}

func TestMembers(t *testing.T) {
	great := plain(origin())
	great.X, great.Y = api.Vec{"999999999", "1000000000", "0"}, api.Vec{"-1000000000", "999999999", "0"}
	for _, row := range []struct {
		what string
		m    api.Member
		e    api.Errno
	}{
		{"P", beam(), api.OK},
		{"Q", post(), api.OK},
		{"a name of 24 bytes", changed(func(m *api.Member) { m.Name = "a23456789_123456789_1234" }), api.OK},
		{"a name of 25 bytes", changed(func(m *api.Member) { m.Name = "a23456789_123456789_12345" }), api.ErrName},
		{"no name", changed(func(m *api.Member) { m.Name = "" }), api.ErrName},
		{"a name with a blank", changed(func(m *api.Member) { m.Name = "a b" }), api.ErrName},
		{"a name of a digit", changed(func(m *api.Member) { m.Name = "1" }), api.ErrName},
		{"a name ahead of the frame", changed(func(m *api.Member) { m.Name, m.Frame.X = "1", origin() }), api.ErrName},
		{"no member", api.Member{}, api.ErrName},
		{"no frame", api.Member{Name: "a"}, api.ErrForm},
		{"an axis 0", changed(func(m *api.Member) { m.Frame.Y = origin() }), api.ErrZero},
		{"a large axis", changed(func(m *api.Member) { m.Frame.Y[0] = digits(601) }), api.ErrLarge},
		{"skew axes", changed(func(m *api.Member) { m.Frame.Y = api.Vec{"1", "1", "0"} }), api.ErrFrame},
		{"axes turned the wrong way", changed(func(m *api.Member) { m.Frame.Z[2] = "-1" }), api.ErrFrame},
		{"a frame ahead of the size", changed(func(m *api.Member) { m.Frame.Z[2], m.Size[0] = "-1", "x" }), api.ErrFrame},
		{"a size that is no number", changed(func(m *api.Member) { m.Size[1] = "2/2" }), api.ErrForm},
		{"a large size", changed(func(m *api.Member) { m.Size[1] = digits(601) }), api.ErrLarge},
		{"a number ahead of its range", changed(func(m *api.Member) { m.Size[0], m.Size[2] = "0", "x" }), api.ErrForm},
		{"the length 0", changed(func(m *api.Member) { m.Size[0] = "0" }), api.ErrRange},
		{"the width 0", changed(func(m *api.Member) { m.Size[1] = "0" }), api.ErrRange},
		{"a negative height", changed(func(m *api.Member) { m.Size[2] = "-1/2" }), api.ErrRange},
		{"a great normal", changed(func(m *api.Member) { m.Frame = great }), api.ErrLarge},
		{"a range ahead of a great normal", changed(func(m *api.Member) { m.Frame, m.Size[0] = great, "0" }), api.ErrRange},
		{"a far end", changed(func(m *api.Member) { m.Frame.Origin[0], m.Size[0] = digits(600), digits(600) }), api.ErrLarge},
		{"the greatest numbers", changed(func(m *api.Member) { m.Frame.Origin[0], m.Size[0] = "-"+digits(600), digits(600) }), api.OK},
	} {
		wantError(t, "CheckMember of "+row.what, joint.CheckMember(row.m), row.e)
		wantError(t, "CheckTimbers of "+row.what, joint.CheckTimbers(timbers([]api.Member{row.m})), row.e)
		s, e := joint.Blank(row.m)
		wantError(t, "Blank of "+row.what, e, row.e)
		l, e := joint.Lengths(row.m)
		if wanted := row.e; wanted != api.OK {
			want(t, "Lengths of "+row.what, l, e, api.Vec{}, wanted)
			want(t, "Blank of "+row.what, s, api.OK, nil, api.OK)
		}
	}
}

func TestBlank(t *testing.T) {
	s, e := joint.Blank(beam())
	want(t, "Blank of P", s, e, api.Solid{block("0", "0", "0", "10", "4", "4")}, api.OK)
	s, e = joint.Blank(post())
	want(t, "Blank of Q", s, e, api.Solid{block("4", "1", "-6", "6", "3", "2")}, api.OK)
	leaning := api.Member{Name: "L", Frame: api.Frame{Origin: api.Vec{"1", "0", "0"}, X: api.Vec{"3", "4", "0"}, Y: api.Vec{"-4", "3", "0"}, Z: api.Vec{"0", "0", "5"}}, Size: api.Vec{"1", "2", "3"}}
	s, e = joint.Blank(leaning)
	want(t, "Blank in a stretched frame", s, e, api.Solid{{half(-4, 3, 0, "46"), half(-3, -4, 0, "-3"), half(0, 0, -1, "0"), half(0, 0, 1, "15"), half(3, 4, 0, "28"), half(4, -3, 0, "4")}}, api.OK)
	l, e := joint.Lengths(leaning)
	want(t, "Lengths in a stretched frame", l, e, api.Vec{"25", "100", "225"}, api.OK)
	l, e = joint.Lengths(stick("S", api.Vec{"1", "2", "3"}, "1/2", "2", "7"))
	want(t, "Lengths along the axes", l, e, api.Vec{"1/4", "4", "49"}, api.OK)
	l, e = joint.Lengths(stick("S", origin(), digits(301), "1", "1"))
	want(t, "Lengths of a long member", l, e, api.Vec{}, api.ErrLarge)
	// The squares of the axes and of the sizes have too many digits, but their products have few.
	m := stick("S", origin(), "1/"+digits(400), "1", "1")
	m.Frame.X[0] = digits(400)
	l, e = joint.Lengths(m)
	want(t, "Lengths of a member with a long axis", l, e, api.Vec{"1", "1", "1"}, api.OK)
}

// many returns members in a row, and as many joints of the last one in the first one.
func many(members, joints int) api.Timbers {
	var t api.Timbers
	for k := range members {
		t.Members = append(t.Members, stick("m"+strconv.Itoa(k), api.Vec{integer(3 * k), "0", "0"}, "2", "1", "1"))
	}
	for range joints {
		t.Joints = append(t.Joints, tie("housing", t.Members[members-1].Name, "m0"))
	}
	return t
}

func TestLimitsOfTimbers(t *testing.T) {
	with := func(r api.Timbers, change func(*api.Timbers)) api.Timbers {
		change(&r)
		return r
	}
	for _, row := range []struct {
		what string
		t    api.Timbers
		e    api.Errno
	}{
		{"nothing", api.Timbers{}, api.OK},
		{"64 members and 64 joints", many(64, 64), api.OK},
		{"65 members", many(65, 0), api.ErrMany},
		{"65 joints", many(2, 65), api.ErrMany},
		{"65 members with an error", with(many(65, 0), func(r *api.Timbers) { r.Members[0].Name = "" }), api.ErrMany},
		{"64 members with an error", with(many(64, 0), func(r *api.Timbers) { r.Members[63].Name = "" }), api.ErrName},
		{"65 joints with an error", with(many(2, 65), func(r *api.Timbers) { r.Joints[0].Kind = "" }), api.ErrMany},
		{"64 joints with an error", with(many(2, 64), func(r *api.Timbers) { r.Joints[63].Kind = "" }), api.ErrKind},
		{"a member with an error, and 65 joints", with(many(2, 65), func(r *api.Timbers) { r.Members[1].Size[0] = "0" }), api.ErrRange},
		{"a name twice, and 65 joints", with(many(3, 65), func(r *api.Timbers) { r.Members[2].Name = "m1" }), api.ErrTwice},
		{"two members with errors", with(many(4, 0), func(r *api.Timbers) { r.Members[1].Size[0], r.Members[3].Name = "0", "" }), api.ErrRange},
		{"a name twice ahead of another error", with(many(4, 0), func(r *api.Timbers) { r.Members[1].Name, r.Members[3].Name = "m0", "" }), api.ErrTwice},
		{"a name twice behind another error", with(many(4, 0), func(r *api.Timbers) { r.Members[1].Size[0], r.Members[3].Name = "0", "m0" }), api.ErrRange},
		{"an error of a member whose name is there twice", with(many(2, 0), func(r *api.Timbers) { r.Members[1].Name, r.Members[1].Size[0] = "m0", "0" }), api.ErrRange},
		{"names that differ in a letter's case", with(many(2, 0), func(r *api.Timbers) { r.Members[1].Name = "M0" }), api.OK},
		{"two joints with errors", with(many(2, 3), func(r *api.Timbers) { r.Joints[1].A, r.Joints[2].Kind = "x", "" }), api.ErrUnknown},
	} {
		wantError(t, "CheckTimbers of "+row.what, joint.CheckTimbers(row.t), row.e)
	}
}

// TestNumbersOfJoints has each error of a joint, and for two of them the one that comes first.
func TestNumbersOfJoints(t *testing.T) {
	for _, row := range []struct {
		kind    string
		numbers string
		e       api.Errno
	}{
		{"housing", "", api.OK}, {"housing", "1", api.ErrShape}, {"birdsmouth", "", api.OK}, {"birdsmouth", "0", api.ErrShape},
		{"tenon", "0 1 0 1 0 1", api.OK}, {"tenon", "-5 -4 0 1/2 7 9", api.OK}, {"tenon", "0 1 0 1 0", api.ErrShape}, {"tenon", "0 1 0 1 0 1 0", api.ErrShape}, {"tenon", "", api.ErrShape},
		{"tenon", "1 1 0 1 0 1", api.ErrOrder}, {"tenon", "0 1 2 1 0 1", api.ErrOrder}, {"tenon", "0 1 0 1 1 1", api.ErrOrder}, {"tenon", "0 1 0 1 1/2 1/3", api.ErrOrder},
		{"tenon", "1 0 0 1 0 x", api.ErrForm}, {"tenon", "1 2/4 0 1 " + string(digits(601)) + " 1", api.ErrForm}, {"tenon", "0 1 0 1 " + string(digits(601)) + " x", api.ErrLarge},
		{"tenon", "0 1 0 1 0 " + string(digits(600)), api.OK}, {"tenon", "1 2 1 2 1 2", api.OK},
		{"lap", "1 0", api.OK}, {"lap", "-1 7", api.OK}, {"lap", "0 7", api.ErrRange}, {"lap", "2 7", api.ErrRange}, {"lap", "-1/2 7", api.ErrRange}, {"lap", "-2 7", api.ErrRange}, {"lap", "2 x", api.ErrForm}, {"lap", "1", api.ErrShape}, {"lap", "1 2 3", api.ErrShape},
		{"scarf", "0 0", api.OK}, {"scarf", "-1 -1/3", api.OK}, {"scarf", "1", api.ErrShape}, {"scarf", "1 +1", api.ErrForm}, {"scarf", "1 2 3", api.ErrShape},
		{"dovetail", "0 1 0 1 0 1 0", api.OK}, {"dovetail", "0 1 0 1 0 1 3/2", api.OK}, {"dovetail", "0 1 0 1 0 1 -1/9", api.ErrRange}, {"dovetail", "0 1 0 1 0 1", api.ErrShape}, {"dovetail", "0 1 0 1 1 0 -1", api.ErrOrder},
		{"dovetail", "0 0 0 1 0 1 1", api.ErrOrder}, {"dovetail", "0 1 0 0 0 1 1", api.ErrOrder}, {"dovetail", "0 1 0 1 1 0 y", api.ErrForm}, {"dovetail", "0 1 0 1 0 1 1 1", api.ErrShape},
		{"peg", "0 0 1 0 1", api.OK}, {"peg", "-9 9 1/7 -1 1/2", api.OK}, {"peg", "0 0 0 0 1", api.ErrRange}, {"peg", "0 0 -1 0 1", api.ErrRange}, {"peg", "0 0 1 1 1", api.ErrOrder}, {"peg", "0 0 -1 2 1", api.ErrOrder},
		{"peg", "0 0 1 0", api.ErrShape}, {"peg", "0 0 1 0 1 2", api.ErrShape}, {"peg", "0 0 -1 2 -0", api.ErrForm}, {"peg", "1 0 1 0 1", api.OK}, {"peg", "1 1 1/2 0 1", api.OK},
		{"mortise", "", api.ErrKind}, {"", "", api.ErrKind}, {"Tenon", "0 1 0 1 0 1", api.ErrKind}, {"tenon ", "0 1 0 1 0 1", api.ErrKind},
	} {
		var numbers []api.Rat
		for word := range strings.FieldsSeq(row.numbers) {
			numbers = append(numbers, api.Rat(word))
		}
		what := "CheckTimbers of " + row.kind + " " + row.numbers
		wantError(t, what, joint.CheckTimbers(joined(row.kind, numbers...)), row.e)
		// Ahead of the numbers there are the kind, the members, and whether they differ.
		before := func(e api.Errno) api.Errno {
			if row.e == api.ErrKind {
				return row.e
			}
			return e
		}
		wantError(t, what+" of no member", joint.CheckTimbers(pair(tie(row.kind, "R", "P", numbers...))), before(api.ErrUnknown))
		wantError(t, what+" in no member", joint.CheckTimbers(pair(tie(row.kind, "P", "p", numbers...))), before(api.ErrUnknown))
		wantError(t, what+" between no members", joint.CheckTimbers(pair(tie(row.kind, "", "", numbers...))), before(api.ErrUnknown))
		wantError(t, what+" of P in P", joint.CheckTimbers(pair(tie(row.kind, "P", "P", numbers...))), before(api.ErrTwice))
	}
}

func TestFind(t *testing.T) {
	r := many(64, 1)
	for k := range r.Members {
		got, e := joint.Find(r, r.Members[k].Name)
		want(t, "Find", got, e, k, api.OK)
	}
	for _, row := range []struct {
		name string
		e    api.Errno
	}{{"m64", api.ErrUnknown}, {"M1", api.ErrUnknown}, {"", api.ErrName}, {"m 1", api.ErrName}, {"1m", api.ErrName}, {strings.Repeat("m", 24), api.ErrUnknown}, {strings.Repeat("m", 25), api.ErrName}} {
		got, e := joint.Find(r, row.name)
		want(t, "Find of "+row.name, got, e, 0, row.e)
	}
	_, e := joint.Find(api.Timbers{}, "m")
	wantError(t, "Find among no members", e, api.ErrUnknown)
	_, e = joint.Find(joined("tenon"), "")
	wantError(t, "Find in timbers with an error", e, api.ErrShape)
}

func TestLengthsAreThoseOfEdges(t *testing.T) {
	s := newSource(1)
	for range 50 {
		m := s.member("M")
		var wanted api.Vec
		for i := range wanted {
			end := origin()
			end[i] = m.Size[i]
			way := sure(space.SubVec(sure(space.Place(m.Frame, end)), m.Frame.Origin))
			wanted[i] = sure(space.Square(way))
		}
		got, e := joint.Lengths(m)
		want(t, "Lengths", got, e, wanted, api.OK)
	}
}

// TestArgumentsAreKept has arguments that are as they were behind all calls, and share nothing with results.
func TestArgumentsAreKept(t *testing.T) {
	r := pegged()
	moved, e := joint.Move(r, plain(api.Vec{"1", "0", "0"}))
	wantError(t, "Move", e, api.OK)
	moved.Joints[0].Numbers[0], moved.Joints[1].Kind, moved.Members[0].Name = "7", "x", "y"
	for k := range r.Members {
		s, _ := joint.Finished(r, k)
		s[0][0].D = "x"
		blank, _ := joint.Blank(r.Members[k])
		blank[0][0].D = "x"
	}
	core, _ := joint.Core(joined("housing"), 0)
	core[0][0].D = "x"
	want(t, "the argument", r, api.OK, pegged(), api.OK)
	a, b, _ := joint.Taken(joined("lap", "1", "1"), 0)
	for i := range a[0] {
		a[0][i].D = "x"
	}
	_, wanted, e := joint.Taken(joined("lap", "1", "1"), 0)
	want(t, "the other result of Taken", b, api.OK, wanted, e)
}
