package raise_test

import (
	"slices"
	"testing"

	"trunnel/api"
	"trunnel/raise"
)

// P8.5

// keyed returns a block with a hole along y, the key that fills it, and a member beside both.
func keyed() api.Timbers {
	return timbers([]api.Member{stick("block", "0 0 0", "3 1 3"), stick("key", "1 0 1", "1 1 1"), stick("other", "5 0 0", "1 1 1")}, tie("birdsmouth", "block", "key"))
}

// heap returns so many members that all overlap.
func heap(count int) api.Timbers {
	var t api.Timbers
	for k := range count {
		t.Members = append(t.Members, stick(name(k), "0 0 "+string(integer(k)), "1 1 100"))
	}
	return t
}

// ring returns four members each of which lies with one end on another one.
func ring() api.Timbers {
	var t api.Timbers
	for k, m := range []api.Member{
		turned("a", "0 0 0", "13 1 1", "12/13 0 5/13", "0 1 0", "-5/13 0 12/13"),
		turned("b", "12 -2 0", "13 1 1", "0 12/13 5/13", "-1 0 0", "0 -5/13 12/13"),
		turned("c", "14 10 0", "13 1 1", "-12/13 0 5/13", "0 -1 0", "5/13 0 12/13"),
		turned("d", "2 12 0", "13 1 1", "0 -12/13 5/13", "1 0 0", "0 5/13 12/13"),
	} {
		m.Name = name(k)
		t.Members = append(t.Members, m)
	}
	return t
}

func TestPathsAndCircleOfExamples(t *testing.T) {
	mixed := timbers(append(tower(3).Members, keyed().Members...), keyed().Joints...)
	mixed.Members[3].Frame.Origin[0], mixed.Members[4].Frame.Origin[0], mixed.Members[5].Frame.Origin[0] = "20", "21", "30"
	all := ""
	for k := range 64 {
		all += name(k) + " 0 "
	}
	for _, x := range []struct {
		what       string
		t          api.Timbers
		directions []api.Vec
		order      []api.Move
		circle     []int
	}{
		{"the examples", yard(), ways(), moves("sill 0 post 0 arm 0"), nil},
		{"a heavy arm", heavy(), ways(), moves("sill 0 post 0 arm 0"), nil},
		{"the examples from below", yard(), vecs("0 0 1"), moves("post 0 arm 0 sill 0"), nil},
		{"the examples from the right, and from below", yard(), vecs("-1 0 0, 0 0 1"), moves("sill 0 post 0 arm 0"), nil},
		{"the examples from the left", yard(), vecs("1 0 0"), moves("sill 0 arm 0 post 0"), nil},
		{"nothing", api.Timbers{}, ways(), nil, nil},
		{"one member", row(1), ways(), moves("M0 0"), nil},
		{"members beside each other", row(3), vecs("1 0 0, 0 1 0"), moves("M0 0 M1 1 M2 1"), nil},
		{"members beside each other, from the left alone", row(3), vecs("1 0 0"), moves("M2 0 M1 0 M0 0"), nil},
		{"64 members", tower(64), ways(), moves(all), nil},
		{"64 members from the side", tower(64), vecs("0 -1 0"), moves(all), nil},
		{"a key in a hole", keyed(), ways(), nil, []int{0, 1}},
		{"a key in a hole, in four directions", keyed(), vecs("0 0 1, 0 0 -1, 1 0 0, -1 0 0"), nil, []int{0, 1}},
		{"a key in a hole, along it", keyed(), vecs("0 0 1, 0 1 0"), moves("block 0 key 1 other 0"), nil},
		{"a key in a hole, aslant", keyed(), vecs("0 1000 1"), nil, []int{0, 1}},
		{"a key in a hole behind others", mixed, ways(), nil, []int{3, 4}},
		{"members that overlap, and one that is gone", gone(), ways(), moves("key 0 block 0 other 0"), nil},
		{"members that overlap", timbers(gone().Members), vecs("0 0 1, 0 1 0, 1 0 0, 1 1 1"), nil, []int{0, 1}},
		{"64 members that overlap", heap(64), ways(), nil, upTo(64)},
		{"members each of which lies on another one", ring(), vecs("0 0 -1"), nil, []int{0, 1, 2, 3}},
		{"members each of which lies on another one, from below", ring(), vecs("0 0 1"), nil, []int{0, 1, 2, 3}},
		{"members each of which lies on another one, without one of them", timbers(ring().Members[1:]), vecs("0 0 -1"), nil, nil},
	} {
		order, e := raise.Paths(x.t, x.directions)
		circle, errCircle := raise.Circle(x.t, x.directions)
		if x.circle == nil {
			want(t, "Circle of "+x.what, circle, errCircle, nil, api.ErrNone)
			if x.order != nil {
				want(t, "Paths of "+x.what, order, e, x.order, api.OK)
			}
			wantError(t, "Paths of "+x.what, e, api.OK)
			continue
		}
		want(t, "Circle of "+x.what, circle, errCircle, x.circle, api.OK)
		want(t, "Paths of "+x.what, order, e, nil, api.ErrBlocked)
		wantError(t, "CheckCircle of "+x.what, raise.CheckCircle(x.t, x.directions, x.circle), api.OK)
	}
}

func TestCheckCircleOfExamples(t *testing.T) {
	for _, x := range []struct {
		what   string
		t      api.Timbers
		circle []int
		e      api.Errno
	}{
		{"a key in a hole", keyed(), []int{0, 1}, api.OK},
		{"a key in a hole, the other way round", keyed(), []int{1, 0}, api.OK},
		{"a key", keyed(), []int{1}, api.ErrProof},
		{"a hole", keyed(), []int{0}, api.ErrProof},
		{"a key in a hole, and a free member", keyed(), []int{1, 2, 0}, api.ErrProof},
		{"a key and a free member", keyed(), []int{1, 2}, api.ErrProof},
		{"the examples", yard(), []int{0, 1, 2}, api.ErrProof},
		{"the sill and the post, since the sill is free from the right", yard(), []int{0, 1}, api.ErrProof},
		{"two of members that overlap", heap(64), []int{63, 5}, api.OK},
		{"64 members that overlap", heap(64), upTo(64), api.OK},
		{"one of members that overlap", heap(64), []int{63}, api.ErrProof},
		{"nothing", yard(), nil, api.ErrEmpty},
		{"nothing of nothing", api.Timbers{}, []int{}, api.ErrEmpty},
	} {
		wantError(t, "CheckCircle of "+x.what, raise.CheckCircle(x.t, ways(), x.circle), x.e)
	}
}

func TestPathsAndCirclesOfAnyTimbers(t *testing.T) {
	s := newSource(6)
	blocked, parts := 0, 0
	for range 90 {
		r, directions := s.timbers(s.from(1, 6)), s.directions(2)
		o := search{t: r, graph: graphOf(r, directions)}
		order, wantedErr := o.paths()
		got, e := raise.Paths(r, directions)
		want(t, "Paths", got, e, order, wantedErr)
		circle, wantedErr := o.circle()
		found, e := raise.Circle(r, directions)
		want(t, "Circle", found, e, circle, wantedErr)
		if e == api.OK {
			blocked++
		}
		for range 4 {
			set := s.subset(len(r.Members))
			wantedErr := api.ErrProof
			switch {
			case len(set) == 0:
				wantedErr = api.ErrEmpty
			case o.isCircle(set):
				wantedErr = api.OK
				parts++
			}
			wantError(t, "CheckCircle", raise.CheckCircle(r, directions, set), wantedErr)
		}
		if e == api.OK {
			slices.Reverse(circle)
			wantError(t, "CheckCircle of Circle", raise.CheckCircle(r, directions, circle), api.OK)
		}
	}
	if blocked < 8 || blocked > 80 || parts < 3 {
		t.Errorf("%d circles, %d of their parts", blocked, parts)
	}
}
