package raise_test

import (
	"slices"
	"testing"

	"trunnel/api"
	"trunnel/raise"
)

// P8.4 and P8.6

// down is the direction from above.
func down() []api.Vec { return vecs("0 0 -1") }

func TestCheckOrderOfExamples(t *testing.T) {
	wall := row(64)
	var along []api.Move
	for k := range 64 {
		along = append(along, api.Move{Member: name(k), Direction: 0})
	}
	for _, x := range []struct {
		what  string
		t     api.Timbers
		props []int
		moves []api.Move
		e     api.Errno
	}{
		{"the examples", yard(), nil, moves("sill 0 post 0 arm 0"), api.OK},
		{"the arm from the right", yard(), nil, moves("sill 0 post 0 arm 1"), api.OK},
		{"all from the right", yard(), nil, moves("sill 1 post 1 arm 1"), api.OK},
		{"no moves", yard(), nil, nil, api.ErrNone},
		{"one move", yard(), nil, moves("sill 0"), api.ErrNone},
		{"two moves", yard(), nil, moves("sill 0 post 0"), api.ErrNone},
		{"two moves, of which one falls", yard(), nil, moves("sill 0 arm 0"), api.ErrFalls},
		{"the post ahead of the sill", yard(), nil, moves("post 0 sill 0 arm 0"), api.ErrFalls},
		{"the arm ahead of the post", yard(), nil, moves("sill 0 arm 0 post 0"), api.ErrFalls},
		{"the arm ahead of the post, as a prop", yard(), []int{2}, moves("sill 0 arm 0 post 0"), api.OK},
		{"the arm ahead of the post, as a prop, and the post from the right", yard(), []int{2}, moves("sill 0 arm 0 post 1"), api.ErrBlocked},
		{"the post as a prop ahead of the sill, from above", yard(), []int{1}, moves("post 0 sill 0 arm 0"), api.ErrBlocked},
		{"the post as a prop ahead of the sill, from the right", yard(), []int{1}, moves("post 0 sill 1 arm 0"), api.OK},
		{"a stage that falls ahead of a move that is blocked", yard(), nil, moves("post 0 sill 0 arm 0"), api.ErrFalls},
		{"a move that is blocked ahead of its stage, which falls", yard(), []int{2}, moves("arm 0 post 1 sill 1"), api.ErrBlocked},
		{"the last stage falls", heavy(), nil, moves("sill 0 post 0 arm 0"), api.ErrFalls},
		{"the last stage falls, but for a prop", heavy(), []int{1}, moves("sill 0 post 0 arm 0"), api.OK},
		{"a prop that comes too late", heavy(), []int{2}, moves("post 0 sill 0 arm 0"), api.ErrFalls},
		{"nothing", api.Timbers{}, nil, nil, api.OK},
		{"64 moves", wall, nil, along, api.OK},
		{"63 moves", wall, nil, along[1:], api.ErrNone},
	} {
		wantError(t, "CheckOrder with "+x.what, raise.CheckOrder(x.t, ways(), x.props, x.moves), x.e)
	}
}

func TestOrderOfExamples(t *testing.T) {
	reversed := yard()
	slices.Reverse(reversed.Members)
	floating := timbers([]api.Member{stick("high", "0 0 5", "1 1 1"), stick("low", "0 0 0", "1 1 1")})
	for _, x := range []struct {
		what       string
		t          api.Timbers
		directions []api.Vec
		props      []int
		order      []api.Move
		e          api.Errno
	}{
		{"the examples", yard(), ways(), nil, moves("sill 0 post 0 arm 0"), api.OK},
		{"the examples with a prop that changes nothing", yard(), ways(), []int{0}, moves("sill 0 post 0 arm 0"), api.OK},
		{"the examples with all props", yard(), ways(), []int{2, 1, 0}, moves("sill 0 post 0 arm 0"), api.OK},
		{"the examples, in the opposite order", reversed, ways(), nil, moves("sill 0 post 0 arm 0"), api.OK},
		{"the examples, in the opposite order, with the post as a prop", reversed, ways(), []int{1}, moves("post 0 arm 0 sill 1"), api.OK},
		{"the examples, in the opposite order, with all props", reversed, ways(), []int{0, 1, 2}, moves("arm 0 post 0 sill 1"), api.OK},
		{"the examples, in the opposite order, with all props, from above", reversed, down(), []int{0, 1, 2}, moves("sill 0 arm 0 post 0"), api.OK},
		{"directions the other way round", yard(), vecs("-1 0 0, 0 0 -1"), nil, moves("sill 0 post 0 arm 0"), api.OK},
		{"directions from below", yard(), vecs("0 0 1, 0 1 0"), nil, moves("sill 0 post 1 arm 1"), api.OK},
		{"directions from below alone", yard(), vecs("0 0 1"), nil, nil, api.ErrFalls},
		{"directions from below alone, with a prop at the end", yard(), vecs("0 0 1"), []int{0}, nil, api.ErrFalls},
		{"directions from below alone, with a prop at the beginning", yard(), vecs("0 0 1"), []int{2}, moves("arm 0 post 0 sill 0"), api.OK},
		{"directions from below alone, with two props", yard(), vecs("0 0 1"), []int{1, 2}, moves("post 0 arm 0 sill 0"), api.OK},
		{"a heavy arm", heavy(), ways(), nil, nil, api.ErrFalls},
		{"a heavy arm that is held", heavy(), ways(), []int{2}, moves("sill 0 post 0 arm 0"), api.OK},
		{"a heavy arm with a sill that is held", heavy(), ways(), []int{0}, moves("sill 0 post 0 arm 0"), api.OK},
		{"a first member that would block the second one", floating, down(), []int{0}, moves("low 0 high 0"), api.OK},
		{"a first member that would block the second one from above only", floating, ways(), []int{0}, moves("high 0 low 1"), api.OK},
		{"a member that floats", floating, ways(), nil, nil, api.ErrFalls},
		{"members that overlap", timbers(gone().Members), ways(), []int{0, 1, 2}, nil, api.ErrBlocked},
		{"members that overlap, and fall", timbers(append(gone().Members, floating.Members[0])), ways(), nil, nil, api.ErrBlocked},
		{"one that is gone, of which nothing blocks", gone(), ways(), []int{1}, moves("key 0 block 0 other 0"), api.OK},
		{"nothing", api.Timbers{}, ways(), nil, nil, api.OK},
		{"a tower of 8", tower(8), ways(), nil, moves("M0 0 M1 0 M2 0 M3 0 M4 0 M5 0 M6 0 M7 0"), api.OK},
		{"a tower of 8 from below", tower(8), vecs("0 0 1, 0 1 0"), nil, moves("M0 0 M1 1 M2 1 M3 1 M4 1 M5 1 M6 1 M7 1"), api.OK},
		{"8 beside each other", row(8), vecs("1 0 0, 0 1 0"), nil, moves("M0 0 M1 1 M2 1 M3 1 M4 1 M5 1 M6 1 M7 1"), api.OK},
		{"8 beside each other from the other side", row(8), vecs("-1 0 0"), nil, moves("M0 0 M1 0 M2 0 M3 0 M4 0 M5 0 M6 0 M7 0"), api.OK},
		{"8 beside each other against their order", row(8), vecs("1 0 0"), nil, moves("M7 0 M6 0 M5 0 M4 0 M3 0 M2 0 M1 0 M0 0"), api.OK},
	} {
		got, e := raise.Order(x.t, x.directions, x.props)
		want(t, "Order of "+x.what, got, e, x.order, x.e)
	}
}

func TestPropsOfExamples(t *testing.T) {
	two := heavy()
	for _, m := range heavy().Members {
		m.Name, m.Frame.Origin[1] = m.Name+"2", "9"
		two.Members = append(two.Members, m)
	}
	two.Joints = append(two.Joints, housings("sill2 post2", "post2 arm2")...)
	floating := timbers(append(row(5).Members, stick("high", "0 0 5", "1 1 1"), stick("high2", "0 5 5", "1 1 1"), stick("low", "0 5 0", "1 1 1")))
	for _, x := range []struct {
		what       string
		t          api.Timbers
		directions []api.Vec
		props      []int
		order      []api.Move
		e          api.Errno
	}{
		{"the examples", yard(), ways(), nil, moves("sill 0 post 0 arm 0"), api.OK},
		{"a heavy arm", heavy(), ways(), []int{0}, moves("sill 0 post 0 arm 0"), api.OK},
		{"two heavy arms", two, ways(), []int{0, 3}, moves("sill 0 post 0 arm 0 sill2 0 post2 0 arm2 0"), api.OK},
		{"directions from below", yard(), vecs("0 0 1"), []int{1}, moves("post 0 arm 0 sill 0"), api.OK},
		{"nothing", api.Timbers{}, ways(), nil, nil, api.OK},
		{"a member that floats", tower(2), vecs("0 0 1"), []int{1}, moves("M1 0 M0 0"), api.OK},
		{"two members that float among 8", floating, down(), []int{5, 6}, moves("M0 0 M1 0 M2 0 M3 0 M4 0 high 0 low 0 high2 0"), api.OK},
		{"a tower of 8", tower(8), ways(), nil, moves("M0 0 M1 0 M2 0 M3 0 M4 0 M5 0 M6 0 M7 0"), api.OK},
		{"a tower of 8 from below", tower(8), vecs("0 0 1"), []int{7}, moves("M7 0 M6 0 M5 0 M4 0 M3 0 M2 0 M1 0 M0 0"), api.OK},
		{"a tower of 8 from below, without joints", timbers(tower(8).Members), vecs("0 0 1"), []int{1, 2, 3, 4, 5, 6, 7}, moves("M7 0 M6 0 M5 0 M4 0 M3 0 M2 0 M1 0 M0 0"), api.OK},
		{"a member that needs the one in the middle", timbers(tower(3).Members, housings("M1 M2")...), ways(), []int{1}, moves("M0 0 M1 0 M2 0"), api.OK},
		{"members that overlap", timbers(gone().Members), ways(), nil, nil, api.ErrBlocked},
		{"8 members that overlap", timbers(append(gone().Members, row(5).Members...)), ways(), nil, nil, api.ErrBlocked},
	} {
		props, order, e := raise.Props(x.t, x.directions)
		want(t, "Props of "+x.what, props, e, x.props, x.e)
		want(t, "Order of Props of "+x.what, order, e, x.order, x.e)
	}
}

func TestLimitsOfSearches(t *testing.T) {
	for _, r := range []api.Timbers{row(9), tower(64)} {
		order, e := raise.Order(r, ways(), nil)
		want(t, "Order of too many members", order, e, nil, api.ErrLimit)
		props, order, e := raise.Props(r, ways())
		want(t, "Props of too many members", props, e, nil, api.ErrLimit)
		want(t, "Order of Props of too many members", order, e, nil, api.ErrLimit)
	}
}

// moves returns moves of different members, at most one for each one.
func (s source) moves(r api.Timbers, directions int) []api.Move {
	var l []api.Move
	for _, k := range s.subset(len(r.Members)) {
		l = append(l, api.Move{Member: r.Members[k].Name, Direction: s.Intn(directions)})
	}
	return l
}

func TestOrdersOfAnyTimbers(t *testing.T) {
	s := newSource(5)
	count := map[string]map[api.Errno]int{"Order": {}, "CheckOrder": {}}
	lengths := map[int]int{}
	for range 100 {
		r, directions := s.timbers(s.from(1, 5)), s.directions(3)
		o := newSearch(r, directions)
		for range 3 {
			props := s.subset(len(r.Members))
			order, wantedErr := o.order(props)
			got, e := raise.Order(r, directions, props)
			want(t, "Order", got, e, order, wantedErr)
			count["Order"][e]++
			l := s.moves(r, len(directions))
			e = raise.CheckOrder(r, directions, props, l)
			wantError(t, "CheckOrder", e, o.check(l, props))
			count["CheckOrder"][e]++
			if wantedErr == api.OK {
				wantError(t, "CheckOrder of Order", raise.CheckOrder(r, directions, props, got), api.OK)
			}
		}
		props, order, wantedErr := o.props()
		gotProps, gotOrder, e := raise.Props(r, directions)
		want(t, "Props", gotProps, e, props, wantedErr)
		want(t, "Order of Props", gotOrder, e, order, wantedErr)
		lengths[len(props)]++
	}
	if c := count["Order"]; c[api.OK] < 50 || c[api.ErrFalls] < 50 || c[api.ErrBlocked] < 10 {
		t.Errorf("orders: %v", c)
	}
	if c := count["CheckOrder"]; c[api.OK] < 10 || c[api.ErrFalls] < 50 || c[api.ErrBlocked] < 10 || c[api.ErrNone] < 50 {
		t.Errorf("checked orders: %v", c)
	}
	if lengths[0] < 8 || lengths[1] < 8 || lengths[2] < 8 || lengths[3] < 2 {
		t.Errorf("lists of props: %v", lengths)
	}
}
