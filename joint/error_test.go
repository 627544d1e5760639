package joint_test

import (
	"reflect"
	"testing"

	"trunnel/api"
	"trunnel/joint"
	"trunnel/space"
)

// P1, and the errors of arguments of P3.1 to P3.6.

// call is a function of timbers: of them alone (0), of a member (k), or of a joint (i).
type call struct {
	name string
	of   byte
	run  func(t api.Timbers, number int) (any, api.Errno)
}

func calls() []call {
	some := joint.Rules{Touch: "1", Wood: "1", Edge: "1"}
	return []call{
		{"CheckTimbers", 0, func(t api.Timbers, _ int) (any, api.Errno) { return 0, joint.CheckTimbers(t) }},
		{"Find", 0, func(t api.Timbers, _ int) (any, api.Errno) { return one(joint.Find(t, "Q")) }},
		{"Core", 'i', func(t api.Timbers, i int) (any, api.Errno) { return one(joint.Core(t, i)) }},
		{"Taken", 'i', func(t api.Timbers, i int) (any, api.Errno) { return two(joint.Taken(t, i)) }},
		{"Finished", 'k', func(t api.Timbers, k int) (any, api.Errno) { return one(joint.Finished(t, k)) }},
		{"Peg", 'i', func(t api.Timbers, i int) (any, api.Errno) { return one(joint.Peg(t, i)) }},
		{"Contacts", 'i', func(t api.Timbers, i int) (any, api.Errno) { return one(joint.Contacts(t, i)) }},
		{"Joined", 'k', func(t api.Timbers, k int) (any, api.Errno) { return one(joint.Joined(t, k)) }},
		{"Groups", 0, func(t api.Timbers, _ int) (any, api.Errno) { return one(joint.Groups(t)) }},
		{"Section", 'k', func(t api.Timbers, k int) (any, api.Errno) { return one(joint.Section(t, k, "1")) }},
		{"Weakest", 'k', func(t api.Timbers, k int) (any, api.Errno) { return two(joint.Weakest(t, k)) }},
		{"Weight", 0, func(t api.Timbers, _ int) (any, api.Errno) { return one(joint.Weight(t)) }},
		{"Edges", 'i', func(t api.Timbers, i int) (any, api.Errno) { return one(joint.Edges(t, i)) }},
		{"Report", 0, func(t api.Timbers, _ int) (any, api.Errno) { return one(joint.Report(t, some)) }},
		{"Accepts", 0, func(t api.Timbers, _ int) (any, api.Errno) { return one(joint.Accepts(t, some)) }},
		{"Move", 0, func(t api.Timbers, _ int) (any, api.Errno) { return one(joint.Move(t, plain(origin()))) }},
	}
}

// wantCall compares the error of a call, beside which there is no other result.
func wantCall(t *testing.T, what string, c call, timbers api.Timbers, number int, wanted api.Errno) {
	t.Helper()
	result, e := c.run(timbers, number)
	wantError(t, c.name+" of "+what, e, wanted)
	if e != api.OK && !isNothing(reflect.ValueOf(result)) {
		t.Errorf("%s of %s: got %v beside an error", c.name, what, result)
	}
}

// isNothing reports whether a value is the zero value of its type, but for empty lists.
func isNothing(v reflect.Value) bool {
	switch v.Kind() {
	case reflect.Slice:
		return v.Len() == 0
	case reflect.Struct:
		for i := range v.NumField() {
			if !isNothing(v.Field(i)) {
				return false
			}
		}
		return true
	}
	return v.IsZero()
}

func TestErrorsOfArguments(t *testing.T) {
	wrong := map[string]api.Timbers{"a name": pair(), "a size": pair(), "a name twice": pair(), "a kind": joined("mortise"), "numbers": joined("lap", "1"), "an order": joined("tenon", "0", "0", "0", "1", "0", "1"), "a range": joined("lap", "0", "1")}
	wrong["a name"].Members[0].Name = "1"
	wrong["a size"].Members[1].Size[0] = "0"
	wrong["a name twice"].Members[1].Name = "P"
	errors := map[string]api.Errno{"a name": api.ErrName, "a size": api.ErrRange, "a name twice": api.ErrTwice, "a kind": api.ErrKind, "numbers": api.ErrShape, "an order": api.ErrOrder, "a range": api.ErrRange}
	good := pair(tie("peg", "P", "Q", "5", "1", "1/4", "0", "4"), tie("peg", "Q", "P", "7", "1", "1/4", "0", "2"), tie("peg", "Q", "P", "1", "1", "1/4", "0", "2"))
	for _, c := range calls() {
		for what, r := range wrong {
			for _, number := range []int{-1, 0, 7} { // timbers come ahead of numbers
				wantCall(t, what, c, r, number, errors[what])
			}
		}
		count := map[byte]int{0: 1, 'k': len(good.Members), 'i': len(good.Joints)}[c.of]
		for number := range count {
			wantCall(t, "pegged members", c, good, number, api.OK)
		}
		if c.of != 0 {
			for _, number := range []int{-1, count, count + 1, -1 << 63, 1<<63 - 1} {
				wantCall(t, "no number", c, good, number, api.ErrUnknown)
				wantCall(t, "nothing", c, api.Timbers{}, number, api.ErrUnknown)
			}
		}
	}
}

// TestNoBoundsOnTheWay has results within the limits, with numbers on the way that are beyond them.
func TestNoBoundsOnTheWay(t *testing.T) {
	n := "1" + zeros(400)
	part := "1/" + n
	more, less := sure(space.Add("1", part)), sure(space.Sub("1", part))
	thin := stick("a", origin(), "10", part, part)
	rest := stick("b", api.Vec{"20", "0", "0"}, "10", more, less)
	w, e := joint.Weight(timbers([]api.Member{thin, rest}))
	want(t, "Weight of volumes that are short together", w, e, "10", api.OK)
	_, e = joint.Weight(timbers([]api.Member{thin}))
	wantError(t, "Weight of one of them", e, api.ErrLarge)
	// A lap in a thin member: its sections have areas with too many digits, their shares are short.
	over := stick("c", api.Vec{"2", "-1", "-1"}, "2", "3", "3")
	lap := timbers([]api.Member{thin, over}, tie("lap", "a", "c", "1", sure(space.Div(part, "4"))))
	s, e := joint.Section(lap, 0, "3")
	want(t, "Section of a thin member", s, e, "1/4", api.OK)
	at, e := two(joint.Weakest(lap, 0))
	wanted, _ := two(api.Rat("3"), api.Rat("1/4"), api.OK)
	want(t, "Weakest of a thin member", at, e, wanted, api.OK)
	// A middle whose plane is too far away to have a form.
	far := timbers([]api.Member{stick("d", api.Vec{"-1/" + nines(600), "0", "0"}, "1", "1", "1")})
	wanted, _ = two(api.Rat("1/2"), api.Rat("1"), api.OK)
	at, e = two(joint.Weakest(far, 0))
	want(t, "Weakest of a member far away", at, e, wanted, api.OK)
	_, e = joint.Section(far, 0, "1/2")
	wantError(t, "Section of a member far away", e, api.ErrLarge)
	// A radius and a place whose difference has too many digits.
	peg := pair(tie("peg", "P", "Q", "1/1"+zeros(400), "1", "1/1"+zeros(399)+"1", "0", "1"))
	edges, e := joint.Edges(peg, 0)
	want(t, "Edges of a small peg", edges, e, "1/1"+zeros(400), api.OK)
}

// TestLargeResults has results beyond the limits.
func TestLargeResults(t *testing.T) {
	n := "1" + zeros(400)
	n1, n3 := "1"+zeros(399)+"1", "1"+zeros(399)+"3"
	// The share that is left of a is 1/n3 of its height n1/n.
	high := stick("a", origin(), "10", "1", n1+"/"+n)
	over := stick("b", api.Vec{"2", "-1", "-1"}, "2", "3", "9")
	lap := timbers([]api.Member{high, over}, tie("lap", "a", "b", "1", "1/"+n3))
	_, e := joint.Finished(lap, 0)
	wantError(t, "Finished", e, api.OK)
	s, e := joint.Section(lap, 0, "3")
	want(t, "Section with a large share", s, e, "", api.ErrLarge)
	s, e = joint.Section(lap, 0, "1")
	want(t, "Section beside a large share", s, e, "1", api.OK)
	nothing, _ := two(api.Rat(""), api.Rat(""), api.OK)
	at, e := two(joint.Weakest(lap, 0))
	want(t, "Weakest with a large share", at, e, nothing, api.ErrLarge)
	// The middle of the hole for the tenon has too many digits.
	tenon := timbers([]api.Member{stick("a", origin(), "10", "1", "1"), stick("b", api.Vec{"0", "-1", "-1"}, "10", "3", "3")},
		tie("tenon", "a", "b", "1/"+n1, "1/"+n, "0", "1", "0", "1"))
	at, e = two(joint.Weakest(tenon, 1))
	want(t, "Weakest with a large middle", at, e, nothing, api.ErrLarge)
	// A small peg near the end of a, whose length has many digits.
	peg := timbers([]api.Member{stick("a", origin(), sure(space.Add("10", "1/"+n)), "4", n1+"/"+n), stick("b", api.Vec{"20", "0", "0"}, "1", "1", "1")},
		tie("peg", "a", "b", "39/4", "1/2", "1/"+n3, "0", "4"))
	edges, e := joint.Edges(peg, 0)
	want(t, "Edges with large numbers", edges, e, "", api.ErrLarge)
	for _, row := range []struct {
		what string
		t    api.Timbers
		r    joint.Rules
		e    api.Errno
	}{
		{"large numbers that are not found", peg, rules("0", "0", "0"), api.OK},
		{"a large share", peg, rules("0", "1", "0"), api.ErrLarge},
		{"large edges", peg, rules("0", "0", digits(500)), api.ErrLarge},
	} {
		got, e := joint.Report(row.t, row.r)
		want(t, "Report with "+row.what, len(got), e, 0, row.e)
		ok, e := joint.Accepts(row.t, row.r)
		want(t, "Accepts with "+row.what, ok, e, row.e == api.OK, api.OK)
	}
}
