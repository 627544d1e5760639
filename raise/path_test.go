package raise_test

import (
	"slices"
	"testing"

	"trunnel/api"
	"trunnel/raise"
	"trunnel/solid"
)

// P8.1

func TestCheckDirections(t *testing.T) {
	many := slices.Repeat(vecs("0 0 1"), 9)
	large := api.Vec{"0", digits(601), "0"}
	for _, x := range []struct {
		what string
		l    []api.Vec
		e    api.Errno
	}{
		{"the examples", ways(), api.OK},
		{"one", vecs("0 0 -1/2"), api.OK},
		{"8, which are the same", many[:8], api.OK},
		{"many digits", []api.Vec{{"0", digits(600), "-1/" + digits(600)}}, api.OK},
		{"none", nil, api.ErrEmpty},
		{"an empty list", []api.Vec{}, api.ErrEmpty},
		{"9", many, api.ErrMany},
		{"9, which are wrong", make([]api.Vec, 9), api.ErrMany},
		{"no numbers", make([]api.Vec, 8), api.ErrForm},
		{"a number in a wrong form", vecs("0 0 1, 0 2/4 1"), api.ErrForm},
		{"a large number", []api.Vec{large}, api.ErrLarge},
		{"0", vecs("0 0 0"), api.ErrZero},
		{"0 ahead of a wrong one", append(vecs("0 0 1, 0 0 0"), large), api.ErrZero},
		{"a wrong one ahead of 0", append([]api.Vec{large}, vecs("0 0 0")...), api.ErrLarge},
		{"0 at the end", append(slices.Clone(many[:7]), vec("0 0 0")), api.ErrZero},
	} {
		wantError(t, "CheckDirections of "+x.what, raise.CheckDirections(x.l), x.e)
	}
}

// wedge returns the prism below the slope from the ground at x = 0 up to z = 4 at x = 4, with y from 0 to 2.
func wedge() api.Solid {
	return api.Solid{sure(solid.Hull(vecs("0 0 0, 4 0 0, 4 0 4, 0 2 0, 4 2 0, 4 2 4")))}
}

func TestBlocksOfExamples(t *testing.T) {
	low, high := box("0 0 0", "1 1 1"), box("0 0 5", "1 1 6")
	gate := slices.Concat(box("0 0 0", "1 1 4"), box("3 0 0", "4 1 4"), box("0 0 4", "4 1 5"))
	halves := slices.Concat(box("0 0 0", "1 1 1"), box("1 0 0", "2 1 1"))
	far := box("0 0 1"+string(ten(599)[1:]), "1 1 2"+string(ten(599)[1:]))
	for _, x := range []struct {
		what string
		a, b api.Solid
		d    string
		is   bool
	}{
		{"one above", low, high, "0 0 -1", true},
		{"one above, from below", low, high, "0 0 1", false},
		{"one below", high, low, "0 0 -1", false},
		{"one below, from below", high, low, "0 0 1/9", true},
		{"one above, from the side", low, high, "1 0 0", false},
		{"one above, below a steep way", low, high, "-1 0 -4", false},
		{"one above, on a steep way", low, high, "-1 0 -5", true},
		{"one above, at the end of a steep way", low, high, "-1 0 -6", true},
		{"one above, whose edge is touched on a steep way", low, high, "-1/4 0 -1", false},
		{"one above, just behind this way", low, high, "-1/4 0 -1001/1000", true},
		{"one far above", low, far, "0 0 -1/999", true},
		{"one far above, on a way that leads by", low, far, "1/999 0 -1", false},
		{"itself", low, low, "1 2 3", true},
		{"one inside", box("0 0 0", "3 3 3"), box("1 1 1", "2 2 2"), "0 0 1", true},
		{"one outside", box("1 1 1", "2 2 2"), box("0 0 0", "3 3 3"), "0 1 0", true},
		{"one that is left behind, but overlaps", low, box("1/2 0 0", "9 1 1"), "1 0 0", true},
		{"one on its side", low, box("1 0 0", "2 1 1"), "0 0 -1", false},
		{"one in front of its side", low, box("1 0 0", "2 1 1"), "-1 0 0", true},
		{"one behind its side", low, box("1 0 0", "2 1 1"), "1 0 0", false},
		{"one in front of its side, on a slanting way", low, box("1 0 0", "2 1 1"), "-1 0 -1000", true},
		{"one above its side", low, box("1 0 5", "2 1 6"), "0 0 -1", false},
		{"one beside its edge", low, box("1 1 0", "2 2 1"), "-1 0 0", false},
		{"one beside its edge, across", low, box("1 1 0", "2 2 1"), "-1 -1 0", true},
		{"one at its corner", low, box("1 1 1", "2 2 2"), "-1 -1 0", false},
		{"one at its corner, across", low, box("1 1 1", "2 2 2"), "-1 -1 -1", true},
		{"nothing", low, nil, "0 0 1", false},
		{"something, which nothing does not meet", nil, low, "0 0 1", false},
		{"nothing and nothing", nil, nil, "0 0 1", false},
		{"a gate before it is passed", box("1 5 0", "3 6 4"), gate, "0 1 0", false},
		{"a gate that is a trifle too narrow", box("1 5 0", "3001/1000 6 4"), gate, "0 1 0", true},
		{"a gate that is a trifle too low", box("1 5 0", "3 6 4001/1000"), gate, "0 1 0", true},
		{"a gate, from above", box("1 0 0", "3 1 4"), gate, "0 0 -1", true},
		{"a gate, from below", box("1 0 0", "3 1 4"), gate, "0 0 1", false},
		{"a gate that is put over something", gate, box("1 0 0", "3 1 4"), "0 0 -1", false},
		{"something in two halves that is inside of one", box("1/2 1/4 1/4", "3/2 3/4 3/4"), halves, "0 0 1", true},
		{"something in two halves", high, halves, "0 0 1", true},
		{"the second one of two bodies", box("5/4 0 5", "7/4 1 6"), halves, "0 0 1", true},
		{"something by the second one of two bodies", halves, box("5/4 0 5", "7/4 1 6"), "0 0 -1", true},
		{"a slope along it", box("0 0 1", "1 2 5"), wedge(), "-1 0 -1", false},
		{"a slope to which it leads", box("0 0 1", "1 2 5"), wedge(), "-1 0 -9/10", true},
		{"a slope from which it leads", box("0 0 1", "1 2 5"), wedge(), "-1 0 -11/10", false},
		{"a slope out of which it comes", box("0 0 1", "1 2 5"), wedge(), "1 0 1", false},
		{"a slope below it", wedge(), box("0 0 1", "1 2 5"), "1 0 1", false},
		{"a slope under which it does not come", wedge(), box("0 0 1", "1 2 5"), "0 0 -1", true},
	} {
		is, e := raise.Blocks(x.a, x.b, vec(x.d))
		want(t, "Blocks by "+x.what, is, e, x.is, api.OK)
	}
}

// body returns a body near the origin with not too many corners.
func (s source) body() api.Body {
	for {
		var b api.Body
		var e api.Errno
		if s.Intn(2) == 0 {
			f := s.axes()
			f.Origin = api.Vec{s.rat(-4, 4), s.rat(-4, 4), s.rat(-4, 4)}
			b, e = solid.Box(f, api.Vec{s.rat(1, 3), "1", s.rat(1, 2)})
		} else {
			l := make([]api.Vec, s.from(4, 5))
			x, y, z := s.from(-4, 2), s.from(-4, 2), s.from(-4, 2)
			for i := range l {
				l[i] = api.Vec{integer(x + s.Intn(4)), integer(y + s.Intn(4)), integer(z + s.Intn(4))}
			}
			b, e = solid.Hull(l)
		}
		if e == api.OK {
			return b
		}
	}
}

// solid returns a solid of one or two bodies.
func (s source) solid() api.Solid {
	all := api.Solid{s.body()}
	if b := s.body(); s.Intn(3) == 0 && solid.CheckSolid(append(all, b)) == api.OK {
		all = append(all, b)
	}
	return all
}

func TestBlocksOfAnySolids(t *testing.T) {
	s := newSource(1)
	count := map[bool]int{}
	for range 800 {
		a, b, d := s.solid(), s.solid(), s.direction()
		wanted, ok := isBlocked(a, b, d)
		if !ok {
			continue
		}
		is, e := raise.Blocks(a, b, d)
		want(t, "Blocks", is, e, wanted, api.OK)
		count[wanted]++
	}
	if count[true] < 100 || count[false] < 100 {
		t.Errorf("blocked or not: %v", count)
	}
}

func TestBlocksErrors(t *testing.T) {
	one, wrong, open := box("0 0 0", "1 1 1"), api.Solid{make(api.Body, 33)}, api.Solid{box("0 0 0", "1 1 1")[0][1:]}
	clash := append(box("0 0 0", "1 1 1"), one...)
	for _, x := range []struct {
		what string
		a, b api.Solid
		d    string
		e    api.Errno
	}{
		{"a wrong solid", wrong, one, "0 0 1", api.ErrMany},
		{"a wrong solid that blocks", one, wrong, "0 0 1", api.ErrMany},
		{"bodies that overlap", one, clash, "0 0 1", api.ErrClash},
		{"65 bodies", one, slices.Repeat(one, 65), "0 0 1", api.ErrMany},
		{"the first solid ahead of the second one", open, clash, "0 0 0", api.ErrOpen},
		{"the second solid ahead of the direction", one, clash, "x 0 0", api.ErrClash},
		{"solids without bodies, and no direction", nil, nil, "0 0", api.ErrForm},
		{"a direction in a wrong form", one, one, "0 0 00", api.ErrForm},
		{"a large direction", one, one, "0 0 " + string(digits(601)), api.ErrLarge},
		{"no direction", one, one, "0 0 0", api.ErrZero},
		{"no direction of nothing", nil, nil, "0 0 0", api.ErrZero},
	} {
		is, e := raise.Blocks(x.a, x.b, vec(x.d))
		want(t, "Blocks with "+x.what, is, e, false, x.e)
	}
}

func TestGraphOfExamples(t *testing.T) {
	got, e := raise.Graph(yard(), ways())
	want(t, "Graph", got, e, [][][]int{{{1, 2}, nil}, {nil, {2}}, {nil, nil}}, api.OK)
	got, e = raise.Graph(api.Timbers{}, ways())
	want(t, "Graph of nothing", got, e, nil, api.OK)
	got, e = raise.Graph(timbers(yard().Members[:1]), ways())
	want(t, "Graph of one member", got, e, [][][]int{{nil, nil}}, api.OK)
	// Each cube is blocked by those above it, whatever else is between them.
	stack := tower(64)
	got, e = raise.Graph(stack, vecs("0 0 -1, 1 0 0, 0 0 2"))
	wanted := make([][][]int, 64)
	for k := range wanted {
		wanted[k] = [][]int{upTo(64)[k+1:], nil, upTo(k)}
	}
	want(t, "Graph of 64 members", got, e, wanted, api.OK)
	// What a joint takes is out of the way: the tenon goes down into the mortise, but not aside.
	tenon := timbers([]api.Member{stick("post", "0 0 1", "1 1 4"), stick("sill", "-2 0 0", "5 1 2")}, tie("tenon", "post", "sill", "1/4", "3/4", "1/4", "3/4", "0", "1"))
	got, e = raise.Graph(tenon, vecs("0 0 -1, 1 0 0, 0 0 1"))
	want(t, "Graph of a tenon", got, e, [][][]int{{nil, {1}, {1}}, {{0}, {0}, nil}}, api.OK)
	tenon.Joints = nil
	got, e = raise.Graph(tenon, vecs("0 0 -1, 1 0 0, 0 0 1"))
	want(t, "Graph of what overlaps", got, e, [][][]int{{{1}, {1}, {1}}, {{0}, {0}, {0}}}, api.OK)
	// A member of which nothing is left neither blocks nor is blocked.
	gone := timbers([]api.Member{stick("key", "0 0 0", "1 1 1"), stick("block", "-1 -1 -1", "3 3 3")}, tie("birdsmouth", "key", "block"))
	got, e = raise.Graph(gone, ways())
	want(t, "Graph of what is gone", got, e, [][][]int{{nil, nil}, {nil, nil}}, api.OK)
}

func TestGraphAndFreeOfAnyTimbers(t *testing.T) {
	s := newSource(2)
	blocked := 0
	for range 80 {
		r, directions := s.timbers(s.from(2, 6)), s.directions(4)
		graph := graphOf(r, directions)
		got, e := raise.Graph(r, directions)
		want(t, "Graph", got, e, graph, api.OK)
		for range 5 {
			present, k := s.subset(len(r.Members)), s.Intn(len(r.Members))
			wanted, wantedErr := freeOf(graph, k, present), api.OK
			if slices.Contains(present, k) {
				wanted, wantedErr = nil, api.ErrState
			}
			got, e := raise.Free(r, directions, present, k)
			want(t, "Free", got, e, wanted, wantedErr)
			if len(wanted) < len(directions) && wantedErr == api.OK {
				blocked++
			}
		}
	}
	if blocked < 30 {
		t.Errorf("%d are blocked", blocked)
	}
}

func TestFreeOfExamples(t *testing.T) {
	for _, x := range []struct {
		what    string
		present []int
		member  int
		l       []int
		e       api.Errno
	}{
		{"the sill below the others", []int{1, 2}, 0, []int{1}, api.OK},
		{"the sill below the arm", []int{2}, 0, []int{1}, api.OK},
		{"the sill alone", nil, 0, []int{0, 1}, api.OK},
		{"the post beside the arm", []int{2}, 1, []int{0}, api.OK},
		{"the post beside all others", []int{2, 0}, 1, []int{0}, api.OK},
		{"the arm beside all others", []int{1, 0}, 2, []int{0, 1}, api.OK},
		{"a member that is present", []int{0, 1}, 1, nil, api.ErrState},
		{"a member that is present alone", []int{2}, 2, nil, api.ErrState},
	} {
		got, e := raise.Free(yard(), ways(), x.present, x.member)
		want(t, "Free of "+x.what, got, e, x.l, x.e)
	}
	got, e := raise.Free(tower(64), vecs("0 0 -1, 0 1 0, 0 0 1"), upTo(63), 63)
	want(t, "Free beside 63 members", got, e, []int{0, 1}, api.OK)
	got, e = raise.Free(tower(3), vecs("0 0 -1, 0 0 1"), []int{0, 2}, 1)
	want(t, "Free between two members", got, e, nil, api.OK)
	got, e = raise.Free(tower(3), slices.Repeat(vecs("0 1 0"), 8), []int{0, 2}, 1)
	want(t, "Free in 8 directions", got, e, upTo(8), api.OK)
}
