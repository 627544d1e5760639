package raise_test

import (
	"reflect"
	"slices"
	"strings"
	"testing"

	"trunnel/api"
	"trunnel/joint"
	"trunnel/raise"
)

// P1, and the errors of arguments of P8.1 to P8.6.

// arguments are those of any function of timbers; each one takes some of them.
type arguments struct {
	timbers    api.Timbers
	directions []api.Vec
	present    []int
	props      []int
	circle     []int
	moves      []api.Move
	member     int
}

// call is a function of timbers.
type call struct {
	name string
	of   string    // its arguments, in their order, and what is looked at behind them: see wrong
	e    api.Errno // for good arguments
	run  func(a arguments) (any, api.Errno)
}

func result[T any](r T, e api.Errno) (any, api.Errno) { return r, e }

func calls() []call {
	return []call{
		{"Graph", "tdf", api.OK, func(a arguments) (any, api.Errno) { return result(raise.Graph(a.timbers, a.directions)) }},
		{"Free", "tdpkfs", api.OK, func(a arguments) (any, api.Errno) {
			return result(raise.Free(a.timbers, a.directions, a.present, a.member))
		}},
		{"Parts", "tp", api.OK, func(a arguments) (any, api.Errno) { return result(raise.Parts(a.timbers, a.present)) }},
		{"Centre", "tpf", api.OK, func(a arguments) (any, api.Errno) { return result(raise.Centre(a.timbers, a.present)) }},
		{"Feet", "tpf", api.OK, func(a arguments) (any, api.Errno) { return result(raise.Feet(a.timbers, a.present)) }},
		{"Stands", "tphf", api.OK, func(a arguments) (any, api.Errno) {
			return result(raise.Stands(a.timbers, a.present, a.props))
		}},
		{"Falling", "tphf", api.ErrNone, func(a arguments) (any, api.Errno) {
			return result(raise.Falling(a.timbers, a.present, a.props))
		}},
		{"CheckOrder", "tdhmf", api.ErrNone, func(a arguments) (any, api.Errno) {
			return nil, raise.CheckOrder(a.timbers, a.directions, a.props, a.moves)
		}},
		{"Order", "tdhlf", api.OK, func(a arguments) (any, api.Errno) {
			return result(raise.Order(a.timbers, a.directions, a.props))
		}},
		{"Paths", "tdf", api.OK, func(a arguments) (any, api.Errno) { return result(raise.Paths(a.timbers, a.directions)) }},
		{"Circle", "tdf", api.ErrNone, func(a arguments) (any, api.Errno) { return result(raise.Circle(a.timbers, a.directions)) }},
		{"CheckCircle", "tdcf", api.ErrProof, func(a arguments) (any, api.Errno) {
			return nil, raise.CheckCircle(a.timbers, a.directions, a.circle)
		}},
		{"Props", "tdlf", api.OK, func(a arguments) (any, api.Errno) {
			props, order, e := raise.Props(a.timbers, a.directions)
			if e != api.OK && len(order) > 0 {
				return order, e
			}
			return props, e
		}},
	}
}

// good returns arguments without errors.
func good() arguments {
	return arguments{yard(), ways(), []int{1, 0}, []int{2}, []int{2, 1}, moves("sill 0 post 1"), 2}
}

// wantCall compares the error of a call, beside which there is no other result.
func wantCall(t *testing.T, what string, c call, a arguments, wanted api.Errno) {
	t.Helper()
	r, e := c.run(a)
	wantError(t, c.name+" of "+what, e, wanted)
	if v := reflect.ValueOf(r); e != api.OK && r != nil && !v.IsZero() && !(v.Kind() == reflect.Slice && v.Len() == 0) {
		t.Errorf("%s of %s: got %v beside an error", c.name, what, r)
	}
}

func TestArgumentsWithoutErrors(t *testing.T) {
	for _, c := range calls() {
		wantCall(t, "good arguments", c, good(), c.e)
	}
}

// wrong is a change of what a function looks at: t, timbers, d, directions, p, present, h, props, c, a circle, m, moves,
// k, a member, l, the limit of members, f, finished members, s, whether the member is present. e is the error behind it.
type wrong struct {
	of     rune
	what   string
	e      api.Errno
	change func(a *arguments)
}

func wrongTimbers() []wrong {
	change := func(what string, e api.Errno, change func(t *api.Timbers)) wrong {
		return wrong{'t', what, e, func(a *arguments) { change(&a.timbers) }}
	}
	return []wrong{
		change("a wrong name", api.ErrName, func(t *api.Timbers) { t.Members[0].Name = "1" }),
		change("a name twice", api.ErrTwice, func(t *api.Timbers) { t.Members[2].Name = "sill" }),
		change("a wrong size", api.ErrRange, func(t *api.Timbers) { t.Members[1].Size[2] = "0" }),
		change("a wrong frame", api.ErrFrame, func(t *api.Timbers) { t.Members[1].Frame.X[1] = "1" }),
		change("65 members", api.ErrMany, func(t *api.Timbers) { t.Members = heap(65).Members }),
		change("100 members", api.ErrMany, func(t *api.Timbers) { t.Members = heap(100).Members }),
		change("65 joints", api.ErrMany, func(t *api.Timbers) { t.Joints = slices.Repeat(t.Joints[:1], 65) }),
		change("a wrong kind", api.ErrKind, func(t *api.Timbers) { t.Joints[0].Kind = "nail" }),
		change("a joint of nothing", api.ErrUnknown, func(t *api.Timbers) { t.Joints[1].B = "wall" }),
	}
}

func wrongDirections() []wrong {
	change := func(what string, e api.Errno, l []api.Vec) wrong {
		return wrong{'d', what, e, func(a *arguments) { a.directions = l }}
	}
	return []wrong{
		change("no directions", api.ErrEmpty, nil),
		change("9 directions", api.ErrMany, slices.Repeat(ways()[:1], 9)),
		change("a direction in a wrong form", api.ErrForm, vecs("0 0 1, 0 0 x")),
		change("a large direction", api.ErrLarge, []api.Vec{{"0", digits(601), "0"}}),
		change("a direction 0", api.ErrZero, vecs("0 0 1, 0 0 0")),
	}
}

// wrongLists has the errors of a list of members.
func wrongLists(of rune, change func(a *arguments, l []int)) []wrong {
	var all []wrong
	for _, x := range []struct {
		what string
		e    api.Errno
		l    []int
	}{
		{"65 numbers", api.ErrMany, slices.Repeat([]int{0}, 65)},
		{"65 wrong numbers", api.ErrMany, slices.Repeat([]int{-1}, 65)},
		{"64 wrong numbers", api.ErrUnknown, slices.Repeat([]int{64}, 64)},
		{"64 equal numbers", api.ErrTwice, make([]int, 64)},
		{"a negative number", api.ErrUnknown, []int{1, -1}},
		{"a number that is too great", api.ErrUnknown, []int{1, 3}},
		{"a very great number", api.ErrUnknown, []int{1 << 62}},
		{"a number twice", api.ErrTwice, []int{1, 0, 1}},
		{"a number twice ahead of a wrong one", api.ErrTwice, []int{1, 1, 3}},
		{"a number twice behind a wrong one", api.ErrUnknown, []int{1, 3, 1}},
		{"a wrong number twice", api.ErrUnknown, []int{3, 3}},
	} {
		all = append(all, wrong{of, x.what, x.e, func(a *arguments) { change(a, slices.Clone(x.l)) }})
	}
	return all
}

func wrongMoves() []wrong {
	change := func(what string, e api.Errno, l []api.Move) wrong {
		return wrong{'m', what, e, func(a *arguments) { a.moves = l }}
	}
	return []wrong{
		change("65 moves", api.ErrMany, slices.Repeat(moves("sill 0"), 65)),
		change("65 wrong moves", api.ErrMany, make([]api.Move, 65)),
		change("64 wrong moves", api.ErrUnknown, make([]api.Move, 64)),
		change("64 equal moves", api.ErrTwice, slices.Repeat(moves("sill 0"), 64)),
		change("no name", api.ErrUnknown, []api.Move{{}}),
		change("no name of a member", api.ErrUnknown, moves("sill 0 Post 0")),
		change("a negative direction", api.ErrUnknown, moves("post -1")),
		change("a direction that is too great", api.ErrUnknown, moves("sill 1 post 2")),
		change("a member twice", api.ErrTwice, moves("sill 0 post 0 sill 1")),
		change("a member twice, with a wrong direction", api.ErrUnknown, moves("sill 0 post 0 sill 2")),
		change("a member twice ahead of a wrong one", api.ErrTwice, moves("sill 0 sill 0 wall 0")),
		change("a member twice behind a wrong one", api.ErrUnknown, moves("sill 0 wall 0 sill 0")),
	}
}

func wrongs() []wrong {
	all := slices.Concat(wrongTimbers(), wrongDirections(), wrongMoves(),
		wrongLists('p', func(a *arguments, l []int) { a.present = l }),
		wrongLists('h', func(a *arguments, l []int) { a.props = l }),
		wrongLists('c', func(a *arguments, l []int) { a.circle = l }))
	for _, k := range []int{-1, 3, 64, -1 << 63} {
		all = append(all, wrong{'k', "a wrong member", api.ErrUnknown, func(a *arguments) { a.member = k }})
	}
	return append(all,
		wrong{'c', "no circle", api.ErrEmpty, func(a *arguments) { a.circle = nil }},
		wrong{'l', "9 members", api.ErrLimit, func(a *arguments) { a.timbers.Members = append(a.timbers.Members, heap(6).Members...) }},
		wrong{'f', "a member that cannot be finished", api.ErrLarge, func(a *arguments) {
			a.timbers.Joints = append(a.timbers.Joints, tie("scarf", "arm", "post", "1000000000", "1"))
		}},
		wrong{'s', "a member that is present", api.ErrState, func(a *arguments) { a.member = 1 }},
	)
}

func TestErrorsOfArguments(t *testing.T) {
	for _, c := range calls() {
		for _, x := range wrongs() {
			a, wanted := good(), c.e
			x.change(&a)
			switch {
			case strings.ContainsRune(c.of, x.of):
				wanted = x.e
			case x.of == 'l': // more members that overlap
				continue
			}
			wantCall(t, x.what, c, a, wanted)
		}
	}
}

func TestOrderOfErrors(t *testing.T) {
	for _, c := range calls() {
		for _, x := range wrongs() {
			for _, y := range wrongs() {
				i, j := strings.IndexRune(c.of, x.of), strings.IndexRune(c.of, y.of)
				// More members may make a wrong number a good one, and one that is no member is not present.
				if i < 0 || j <= i || y.of == 'l' && x.e == api.ErrUnknown || x.of == 'k' && y.of == 's' {
					continue
				}
				a := good()
				y.change(&a)
				x.change(&a)
				wantCall(t, x.what+" and "+y.what, c, a, x.e)
			}
		}
	}
}

// bevels returns two members of which a first one has more half-spaces than it may have when it is finished, and a second
// one has joints with large numbers.
func bevels() []api.Joint {
	var l []api.Joint
	for i := 1; i <= 27; i++ {
		// The planes touch the parabola 10 z = (x - 10)^2 where x = i / 4.
		l = append(l, tie("scarf", "great", "small", quotient(20, 40-i), quotient(40+i, 8)))
	}
	return append(l, tie("scarf", "great", "small", "1000000000", "1"))
}

func TestErrorsOfFinishedMembers(t *testing.T) {
	small, great := stick("small", "0 0 0", "10 1 10"), stick("great", "0 -1 0", "12 3 12")
	other := stick("other", "50 0 0", "1 1 1")
	for _, x := range []struct {
		what    string
		members []api.Member
		e       api.Errno
	}{
		{"small ahead of great", []api.Member{other, small, great}, api.ErrMany},
		{"great ahead of small", []api.Member{other, great, small}, api.ErrLarge},
	} {
		r := timbers(x.members, bevels()...)
		for k, m := range r.Members {
			_, e := joint.Finished(r, k)
			wantError(t, "Finished of "+m.Name, e, map[string]api.Errno{"other": api.OK, "small": api.ErrMany, "great": api.ErrLarge}[m.Name])
		}
		for _, c := range calls() {
			a := arguments{timbers: r, directions: ways(), circle: []int{0}, member: 0}
			wanted := x.e
			if c.name == "Parts" {
				wanted = api.OK
			}
			wantCall(t, x.what, c, a, wanted)
			if strings.ContainsRune(c.of, 'p') {
				a.present = []int{0, 1} // for Free the member is present
				wantCall(t, x.what+", some of which are present", c, a, wanted)
			}
		}
	}
}

// garbage returns arguments of any kind.
func (s source) garbage() arguments {
	numbers := func() []int {
		switch s.Intn(8) {
		case 0:
			return upTo(s.from(63, 65))
		case 1:
			return []int{s.from(-1<<40, 1<<40), s.from(-1, 5)}
		}
		return s.subset(3)
	}
	lists := []api.Timbers{{}, yard(), heavy(), gone(), keyed(), heap(2), heap(65), {Members: make([]api.Member, 2)}, {Members: row(2).Members, Joints: make([]api.Joint, 1)}}
	directions := [][]api.Vec{nil, ways(), down(), make([]api.Vec, 8), vecs("1 2 3, 0 0 -1"), {{"1/3", "-2", "5/" + digits(600)}}}
	a := arguments{timbers: lists[s.Intn(len(lists))], directions: directions[s.Intn(len(directions))], present: numbers(), props: numbers(), circle: numbers(), member: s.from(-1, 3)}
	for range s.Intn(4) {
		a.moves = append(a.moves, api.Move{Member: s.choice("sill", "post", "arm", "key", "M0", ""), Direction: s.from(-1, 2)})
	}
	return a
}

func TestArgumentsOfAnyKind(t *testing.T) {
	s := newSource(7)
	ok := map[string]bool{}
	for range 200 {
		a := s.garbage()
		for _, c := range calls() {
			_, e := c.run(a)
			wantCall(t, "any arguments", c, a, e)
			ok[c.name] = ok[c.name] || e == api.OK
		}
	}
	for _, c := range calls() {
		if !ok[c.name] {
			t.Errorf("%s has always had an error", c.name)
		}
	}
}

// wipe makes all that a result refers to zero.
func wipe(v reflect.Value) {
	switch v.Kind() {
	case reflect.Interface:
		wipe(v.Elem())
	case reflect.Slice:
		for i := range v.Len() {
			wipe(v.Index(i))
			v.Index(i).SetZero()
		}
	}
}

// TestArgumentsAndResultsAreTheirOwn changes results, and looks at arguments behind calls.
func TestArgumentsAndResultsAreTheirOwn(t *testing.T) {
	a := good()
	for _, c := range calls() {
		first, e := c.run(a)
		wantError(t, c.name, e, c.e)
		second, _ := c.run(a)
		if first != nil {
			wipe(reflect.ValueOf(first))
		}
		third, _ := c.run(a)
		if !reflect.DeepEqual(second, third) || !reflect.DeepEqual(a, good()) {
			t.Errorf("%s: %v, then %v, of %v", c.name, second, third, a)
		}
	}
	square := points("0 0, 1 0, 1 1, 0 1, 1/2 1/2")
	slices.Reverse(square)
	before := slices.Clone(square)
	corners := sure(raise.Hull(square))
	want(t, "the points of Hull", square, api.OK, before, api.OK)
	sure(raise.Inside(corners, [2]api.Rat{"2", "2"}))
	want(t, "the corners of Inside", corners, api.OK, points("0 0, 1 0, 1 1, 0 1"), api.OK)
}
