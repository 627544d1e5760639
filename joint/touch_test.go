package joint_test

import (
	"slices"
	"strconv"
	"testing"

	"trunnel/api"
	"trunnel/joint"
	"trunnel/solid"
)

// P3.3

func contact(a, b, c int, d api.Rat, area ...api.Rat) api.Contact {
	return api.Contact{Plane: half(a, b, c, d), Area: api.Vec(area)}
}

func TestContacts(t *testing.T) {
	apart := pair(tie("housing", "Q", "P"))
	apart.Members[1].Frame.Origin[2] = "-9"
	stacked := pair(tie("housing", "P", "Q"))
	stacked.Members[1].Frame.Origin[2] = "-8"
	for _, row := range []struct {
		what string
		t    api.Timbers
		want []api.Contact
	}{
		{"the tenon", tenon(), []api.Contact{
			contact(-1, 0, 0, "-9/2", "-4", "0", "0"), contact(0, -1, 0, "-1", "0", "-2", "0"), contact(0, 0, 1, "0", "0", "0", "2"),
			contact(0, 0, 1, "2", "0", "0", "2"), contact(0, 1, 0, "3", "0", "2", "0"), contact(1, 0, 0, "11/2", "4", "0", "0")}},
		{"a housing", joined("housing"), []api.Contact{
			contact(-1, 0, 0, "-4", "-4", "0", "0"), contact(0, -1, 0, "-1", "0", "-4", "0"), contact(0, 0, 1, "2", "0", "0", "4"),
			contact(0, 1, 0, "3", "0", "4", "0"), contact(1, 0, 0, "6", "4", "0", "0")}},
		{"a housing the other way", pair(tie("housing", "P", "Q")), []api.Contact{contact(0, 0, -1, "0", "0", "0", "-4")}},
		{"a birdsmouth", joined("birdsmouth"), []api.Contact{contact(0, 0, 1, "0", "0", "0", "4")}},
		{"members that are apart", apart, nil},
		{"members that touch without an overlap", stacked, []api.Contact{contact(0, 0, -1, "0", "0", "0", "-4")}},
		{"a peg through members that overlap", pair(tie("peg", "P", "Q", "5", "2", "2", "0", "4")), nil},
	} {
		got, e := joint.Contacts(row.t, 0)
		want(t, "Contacts of "+row.what, got, e, row.want, api.OK)
	}
	// Behind the tenon the peg has the finished members of all joints, P ahead of Q.
	got, e := joint.Contacts(pegged(), 1)
	p, q := sure(joint.Finished(pegged(), 0)), sure(joint.Finished(pegged(), 1))
	want(t, "Contacts of a peg", got, e, sure(solid.Contacts(p, q)), api.OK)
	back, e := joint.Contacts(pegged(), 0)
	want(t, "Contacts of a pegged tenon", back, e, sure(solid.Contacts(q, p)), api.OK)
	want(t, "the first contact of P with Q", got[0], api.OK, contact(-1, 0, 0, "-11/2", "-4", "0", "0"), api.OK)
	want(t, "the first contact of Q with P", back[0], api.OK, contact(-1, 0, 0, "-9/2", "-4", "0", "0"), api.OK)
}

func TestContactsErrors(t *testing.T) {
	// Both members are too thin for the area in which they touch.
	thin := "1/1" + zeros(301)
	r := timbers([]api.Member{stick("a", origin(), "1", thin, thin), stick("b", api.Vec{"1", "0", "0"}, "1", thin, thin)}, tie("housing", "a", "b"))
	got, e := joint.Contacts(r, 0)
	want(t, "Contacts with a small area", got, e, nil, api.ErrLarge)
	// A's error comes first: the beam has too many bodies, one plate has an error of its own.
	both := plates(63)
	both.Members[63].Size[1] = "3/2"
	both.Joints = append(both.Joints, tie("scarf", "p1", "p2", "1000000000", "1"))
	_, e = joint.Contacts(both, 1)
	wantError(t, "Contacts with an error of A", e, api.ErrMany)
	both.Joints[1].A, both.Joints[1].B = "p1", "beam"
	_, e = joint.Contacts(both, 1)
	wantError(t, "Contacts with an error of A", e, api.ErrLarge)
}

// web returns members with joints between those with the given numbers.
func web(members int, edges ...[2]int) api.Timbers {
	r := many(members, 0)
	for i, edge := range edges {
		kind := []string{"housing", "birdsmouth", "peg"}[i%3]
		r.Joints = append(r.Joints, tie(kind, "m"+strconv.Itoa(edge[0]), "m"+strconv.Itoa(edge[1]), kindNumbers()[kind]...))
	}
	return r
}

func TestJoinedAndGroups(t *testing.T) {
	// Its greatest member comes first on the way to the least one.
	chain := make([][2]int, 63)
	for i := range chain {
		chain[i] = [2]int{63 - i, 62 - i}
	}
	for _, row := range []struct {
		what   string
		t      api.Timbers
		joined [][]int
		groups []int
	}{
		{"no members", api.Timbers{}, nil, nil},
		{"no joints", web(3), [][]int{nil, nil, nil}, []int{0, 1, 2}},
		{"one joint", web(3, [2]int{2, 1}), [][]int{nil, {2}, {1}}, []int{0, 1, 1}},
		{"joints both ways, and several ones", web(4, [2]int{3, 0}, [2]int{0, 3}, [2]int{0, 1}, [2]int{3, 0}, [2]int{2, 0}), [][]int{{1, 2, 3}, {0}, {0}, {0}}, []int{0, 0, 0, 0}},
		{"two groups", web(6, [2]int{5, 3}, [2]int{4, 2}, [2]int{3, 1}, [2]int{2, 0}), [][]int{{2}, {3}, {0, 4}, {1, 5}, {2}, {3}}, []int{0, 1, 0, 1, 0, 1}},
		{"a circle", web(5, [2]int{1, 2}, [2]int{2, 4}, [2]int{4, 1}), [][]int{nil, {2, 4}, {1, 4}, nil, {1, 2}}, []int{0, 1, 1, 3, 1}},
		{"a chain", web(64, chain...), nil, make([]int, 64)},
		{"a chain the other way", web(64, slices.Concat(chain[32:], chain[:32])...), nil, make([]int, 64)},
	} {
		groups, e := joint.Groups(row.t)
		want(t, "Groups of "+row.what, groups, e, row.groups, api.OK)
		for k, wanted := range row.joined {
			got, e := joint.Joined(row.t, k)
			want(t, "Joined of "+row.what, got, e, wanted, api.OK)
		}
	}
	got, e := joint.Joined(web(64, chain...), 17)
	want(t, "Joined in a chain", got, e, []int{16, 18}, api.OK)
}
