package raise_test

import (
	"slices"
	"testing"

	"trunnel/api"
	"trunnel/joint"
	"trunnel/raise"
	"trunnel/space"
)

// P8.7

// numbersOf returns the numbers of the members of moves.
func numbersOf(t api.Timbers, l []api.Move) []int {
	numbers := make([]int, len(l))
	for i, m := range l {
		numbers[i] = sure(joint.Find(t, m.Member))
	}
	return numbers
}

// wantDown compares an order, followed backwards, with the free paths of its members; all stages stand.
func wantDown(t *testing.T, r api.Timbers, directions []api.Vec, props []int, order []api.Move) {
	t.Helper()
	numbers := numbersOf(r, order)
	want(t, "the members of an order", slices.Sorted(slices.Values(numbers)), api.OK, upTo(len(r.Members)), api.OK)
	for i, m := range slices.Backward(order) {
		stands, e := raise.Stands(r, numbers[:i+1], props)
		want(t, "Stands of a stage", stands, e, true, api.OK)
		free, e := raise.Free(r, directions, numbers[:i], numbers[i])
		want(t, "Free of the last member", slices.Contains(free, m.Direction), e, true, api.OK)
	}
}

func TestOrdersAreTakenDownByFreePaths(t *testing.T) {
	s := newSource(8)
	count := 0
	for range 40 {
		r, directions := s.timbers(s.from(1, 6)), s.directions(3)
		props, order, e := raise.Props(r, directions)
		if e != api.OK {
			continue
		}
		wantDown(t, r, directions, props, order)
		order = sure(raise.Paths(r, directions))
		wantDown(t, r, directions, upTo(len(r.Members)), order)
		wantError(t, "CheckOrder of Paths with all props", raise.CheckOrder(r, directions, upTo(len(r.Members)), order), api.OK)
		count++
	}
	if count < 10 {
		t.Errorf("%d orders", count)
	}
}

func TestThereAreFreePathsOrCircles(t *testing.T) {
	s := newSource(9)
	count := map[api.Errno]int{}
	for range 60 {
		r, directions := s.timbers(s.from(2, 8)), s.directions(2)
		_, e := raise.Paths(r, directions)
		count[e]++
		circle, errCircle := raise.Circle(r, directions)
		_, errOrder := raise.Order(r, directions, upTo(len(r.Members)))
		wantError(t, "Order with all props", errOrder, e)
		if e == api.OK {
			wantError(t, "Circle", errCircle, api.ErrNone)
			continue
		}
		wantError(t, "Paths", e, api.ErrBlocked)
		wantError(t, "Circle", errCircle, api.OK)
		wantError(t, "CheckCircle", raise.CheckCircle(r, directions, circle), api.OK)
	}
	if count[api.OK] < 10 || count[api.ErrBlocked] < 10 {
		t.Errorf("paths: %v", count)
	}
}

func TestFewerMembersBlockLess(t *testing.T) {
	s := newSource(10)
	more := 0
	for range 40 {
		r, directions := s.timbers(6), s.directions(4)
		present := s.Perm(6)
		k := present[5]
		free := []int{}
		for count := 5; count >= 0; count-- {
			l, e := raise.Free(r, directions, present[:count], k)
			wantError(t, "Free", e, api.OK)
			for _, d := range free {
				want(t, "Free beside fewer members", slices.Contains(l, d), api.OK, true, api.OK)
			}
			if len(l) > len(free) && count < 5 {
				more++
			}
			free = l
		}
		want(t, "Free alone", free, api.OK, upTo(len(directions)), api.OK)
	}
	if more < 10 {
		t.Errorf("%d are free beside fewer ones", more)
	}
}

func TestMorePropsHold(t *testing.T) {
	s := newSource(11)
	held := 0
	for range 40 {
		r := s.timbers(5)
		present, props := s.Perm(5)[:s.from(1, 5)], s.Perm(5)
		stood := false
		for count := range 6 {
			stands := sure(raise.Stands(r, present, props[:count]))
			if stood && !stands {
				t.Errorf("with props at %v it stands, at %v it falls", props[:count-1], props[:count])
			}
			if stands && !stood && count > 0 {
				held++
			}
			stood = stands
		}
		want(t, "Stands with all props", stood, api.OK, true, api.OK)
	}
	if held < 10 {
		t.Errorf("%d are held by props", held)
	}
}

// level returns a frame that is turned round the vertical, and whose axes have the same length.
func (s source) level() api.Frame {
	f := plain(api.Vec{s.rat(-3, 3), s.rat(-3, 3), "0"})
	c := []api.Rat{"1", "2", "1/3"}[s.Intn(3)]
	f.X, f.Y = vec(s.choice("3/5 4/5 0", "0 1 0", "-1 0 0", "5/13 -12/13 0")), api.Vec{}
	f.Y = sure(space.Cross(f.Z, f.X))
	f.X, f.Y, f.Z = sure(space.Scale(c, f.X)), sure(space.Scale(c, f.Y)), sure(space.Scale(c, f.Z))
	return f
}

// moved returns directions that are turned with a frame.
func moved(f api.Frame, directions []api.Vec) []api.Vec {
	l := make([]api.Vec, len(directions))
	for i, d := range directions {
		l[i] = sure(space.SubVec(sure(space.Place(f, d)), f.Origin))
	}
	return l
}

func TestMovedFramesHaveTheSameOrders(t *testing.T) {
	s := newSource(12)
	for range 40 {
		r, directions, f := s.timbers(s.from(1, 5)), s.directions(3), s.level()
		other, ways := sure(joint.Move(r, f)), moved(f, directions)
		present, props := s.subset(len(r.Members)), s.subset(len(r.Members))
		order, wantedErr := raise.Order(r, directions, props)
		got, e := raise.Order(other, ways, props)
		want(t, "Order of a moved frame", got, e, order, wantedErr)
		order, wantedErr = raise.Paths(r, directions)
		got, e = raise.Paths(other, ways)
		want(t, "Paths of a moved frame", got, e, order, wantedErr)
		stands, e := raise.Stands(other, present, props)
		want(t, "Stands of a moved frame", stands, e, sure(raise.Stands(r, present, props)), api.OK)
		if len(present) > 0 {
			centre, e := raise.Centre(r, present)
			if e == api.OK {
				centre = sure(space.Place(f, centre))
			}
			got, errMoved := raise.Centre(other, present)
			want(t, "Centre of a moved frame", got, errMoved, centre, e)
		}
		// Where there is no ground, every motion will do.
		f = s.axes()
		f.Origin = api.Vec{s.rat(-3, 3), s.rat(-3, 3), s.rat(-3, 3)}
		graph, e := raise.Graph(sure(joint.Move(r, f)), moved(f, directions))
		want(t, "Graph of a moved frame", graph, e, sure(raise.Graph(r, directions)), api.OK)
	}
}

func TestTheGroundMatters(t *testing.T) {
	up := sure(joint.Move(yard(), plain(vec("0 0 1"))))
	order, e := raise.Order(up, ways(), nil)
	want(t, "Order above the ground", order, e, nil, api.ErrFalls)
	order, e = raise.Order(up, ways(), []int{0})
	want(t, "Order above the ground with a prop", order, e, moves("sill 0 post 0 arm 0"), api.OK)
	order, e = raise.Order(sure(joint.Move(yard(), plain(vec("0 0 -1")))), ways(), nil)
	want(t, "Order in the ground", order, e, moves("sill 0 post 0 arm 0"), api.OK)
}
