package yard_test

import (
	"maps"
	"slices"
	"strconv"
	"strings"
	"testing"

	"trunnel/api"
	"trunnel/yard"
)

// P10.4: Base; P10.5: Replay and Accepts

// story returns the events of the chapter's example.
func story() []api.Event {
	return []api.Event{
		event("1 draw main", hall),
		event("2 branch side main", ""),
		event("3 draw side", strings.Replace(hall, "w 4", "w 5", 1)),
		event("4 draw main", hall+"post z 0 9 0 1 1 1\n"),
		event("5 merge main side", ""),
	}
}

func TestProjectOfTheExample(t *testing.T) {
	z := "post z 0 9 0 1 1 1\n"
	five := strings.Replace(hallLines, "w 4", "w 5", 1)
	versions := []yard.Version{
		{Number: 1, Timbers: timbers(hallLines)},
		{Number: 3, Parents: []int{1}, Timbers: timbers(five)},
		{Number: 4, Parents: []int{1}, Timbers: timbers(hallLines + z)},
		{Number: 5, Parents: []int{4, 3}, Timbers: timbers(five + z)},
	}
	p, at, e := yard.Replay(story())
	wantAt(t, "Replay", p, at, e, yard.Project{Branches: []yard.Branch{{Name: "main", Version: 5}, {Name: "side", Version: 3}}, Versions: versions}, 0, api.OK)
	p, at, e = yard.Replay(append(story(), event("6 undo", "")))
	wantAt(t, "Replay of an undo", p, at, e, yard.Project{Branches: []yard.Branch{{Name: "main", Version: 4}, {Name: "side", Version: 3}}, Versions: versions[:3]}, 0, api.OK)
	p, at, e = yard.Replay(append(story(), event("6 undo", ""), event("7 undo", ""), event("8 undo", ""), event("9 note", "a\nb"), event("10 undo", ""), event("11 note", ""), event("12 draw side", "frame x\n"), event("13 note", "c")))
	wantAt(t, "Replay of more", p, at, e, yard.Project{
		Branches: []yard.Branch{{Name: "main", Version: 1}, {Name: "side", Version: 12}},
		Versions: []yard.Version{versions[0], {Number: 12, Parents: []int{1}}}, Notes: []string{"", "c"},
	}, 0, api.OK)
	p, at, e = yard.Replay(nil)
	wantAt(t, "Replay of nothing", p, at, e, yard.Project{}, 0, api.OK)
}

func TestBasesOfTheExample(t *testing.T) {
	for _, row := range []struct {
		a, b, base int
		e          api.Errno
	}{
		{4, 3, 1, api.OK}, {3, 4, 1, api.OK}, {5, 3, 3, api.OK}, {4, 5, 4, api.OK}, {5, 5, 5, api.OK}, {1, 5, 1, api.OK},
		{2, 3, 0, api.ErrUnknown}, {3, 2, 0, api.ErrUnknown}, {0, 3, 0, api.ErrUnknown}, {3, 0, 0, api.ErrUnknown}, {-1, 3, 0, api.ErrUnknown}, {3, 6, 0, api.ErrUnknown},
		{1 << 62, 3, 0, api.ErrUnknown},
	} {
		got, e := yard.Base(story(), row.a, row.b)
		want(t, "Base", got, e, row.base, row.e)
	}
	undone := append(story(), event("6 undo", ""), event("7 draw new", "frame x\n"))
	for _, row := range []struct {
		a, b, base int
		e          api.Errno
	}{{5, 3, 0, api.ErrUnknown}, {6, 3, 0, api.ErrUnknown}, {3, 5, 0, api.ErrUnknown}, {4, 3, 1, api.OK}, {7, 3, 0, api.OK}, {4, 7, 0, api.OK}, {7, 7, 7, api.OK}} {
		got, e := yard.Base(undone, row.a, row.b)
		want(t, "Base behind an undo", got, e, row.base, row.e)
	}
	got, e := yard.Base([]api.Event{event("2 undo", "")}, 1, 1)
	want(t, "Base of wrong events", got, e, 0, api.ErrOrder)
	got, e = yard.Base(make([]api.Event, 1001), 1, 1)
	want(t, "Base of 1001 events", got, e, 0, api.ErrMany)
	got, e = yard.Base(nil, 1, 1)
	want(t, "Base of nothing", got, e, 0, api.ErrUnknown)
}

func TestBaseIsTheGreatestOne(t *testing.T) {
	empty := "frame x\n"
	events := []api.Event{
		event("1 draw a", empty), event("2 branch b a", ""), event("3 draw a", empty), event("4 draw b", empty), event("5 merge a b", ""),
		event("6 branch c a", ""), event("7 draw b", empty), event("8 merge b c", ""), event("9 draw a", empty), event("10 draw b", empty),
	}
	for _, row := range [][3]int{{9, 10, 5}, {9, 7, 4}, {9, 8, 5}, {7, 3, 1}, {5, 7, 4}, {8, 5, 5}} {
		got, e := yard.Base(events, row[0], row[1])
		want(t, "Base", got, e, row[2], api.OK)
	}
	// Crosswise merges have two versions from which both come, none of which comes from the other one.
	cross := []api.Event{
		event("1 draw a", empty), event("2 branch b a", ""), event("3 draw a", empty), event("4 draw b", empty), event("5 branch c a", ""),
		event("6 merge a b", ""), event("7 merge b c", ""),
	}
	got, e := yard.Base(cross, 6, 7)
	want(t, "Base of crosswise merges", got, e, 4, api.OK)
	got, e = yard.Base(cross, 7, 6)
	want(t, "Base of crosswise merges", got, e, 4, api.OK)
}

func TestAcceptedEvents(t *testing.T) {
	mute := api.Event{Number: 6, Kind: "undo", Values: []int{1}}
	for _, row := range []struct {
		what   string
		events []api.Event
		e      api.Event
		err    api.Errno
	}{
		{"an undo", story(), event("6 undo", ""), api.OK},
		{"a note", story(), event("6 note", "a\nb"), api.OK},
		{"a number too far", story(), event("7 undo", ""), api.ErrOrder},
		{"the last number again", story(), event("5 undo", ""), api.ErrOrder},
		{"the number 1 again", story(), event("1 note", ""), api.ErrOrder},
		{"the number 2 first", nil, event("2 note", ""), api.ErrOrder},
		{"a wrong number of what is not there", story(), event("7 branch side x", ""), api.ErrOrder},
		{"a wrong event with a wrong number", story(), event("7 saw", ""), api.ErrKind},
		{"a value", story(), mute, api.ErrShape},
		{"a merge of what comes from it", story(), event("6 merge main side", ""), api.ErrNone},
		{"a merge the other way", story(), event("6 merge side main", ""), api.OK},
		{"a merge of a branch and itself", story(), event("6 merge side side", ""), api.ErrNone},
		{"a merge into nothing", story(), event("6 merge x main", ""), api.ErrUnknown},
		{"a merge of nothing", story(), event("6 merge main x", ""), api.ErrUnknown},
		{"a merge of nothing and itself", story(), event("6 merge x x", ""), api.ErrUnknown},
		{"a merge of equal branches", append(story(), event("6 branch new main", "")), event("7 merge main new", ""), api.ErrNone},
		{"a branch that is there", story(), event("6 branch side main", ""), api.ErrTwice},
		{"a branch that is there from nothing", story(), event("6 branch side x", ""), api.ErrTwice},
		{"a branch from nothing", story(), event("6 branch x y", ""), api.ErrUnknown},
		{"a branch from itself", story(), event("6 branch x x", ""), api.ErrUnknown},
		{"a branch that is there from itself", story(), event("6 branch main main", ""), api.ErrTwice},
		{"a text that is torn", story(), event("6 draw x", "frame"), api.ErrTorn},
		{"a text that is no plan", story(), event("6 draw x", "frame H\nwall\n"), api.ErrSyntax},
		{"a text of a wrong plan", story(), event("6 draw x", "frame H\nend\n"), api.ErrState},
		{"a plan without timbers", story(), event("6 draw x", "frame H\nhousing a b\n"), api.ErrUnknown},
		{"a plan that is torn ahead of no timbers", story(), event("6 draw x", "frame H\npost p v 0 0 0 0 0\nbent b\n"), api.ErrTorn},
		{"a plan of nothing", story(), event("6 draw x", "frame H\n"), api.OK},
		{"an undo of nothing", nil, event("1 undo", ""), api.ErrEmpty},
		{"an undo of what is undone", []api.Event{event("1 note", ""), event("2 undo", "")}, event("3 undo", ""), api.ErrEmpty},
		{"an undo of an undo", []api.Event{event("1 note", ""), event("2 note", ""), event("3 undo", "")}, event("4 undo", ""), api.OK},
		{"a branch that is undone", append(story()[:2], event("3 undo", "")), event("4 draw x", "frame\n"), api.ErrSyntax},
		{"a branch from what is undone", []api.Event{event("1 draw a", "frame a\n"), event("2 undo", "")}, event("3 branch b a", ""), api.ErrUnknown},
		{"a branch that is there no longer", []api.Event{event("1 draw a", "frame a\n"), event("2 branch b a", ""), event("3 undo", "")}, event("4 branch b a", ""), api.OK},
		{"wrong events ahead of a wrong one", []api.Event{event("1 undo", "")}, api.Event{}, api.ErrEmpty},
		{"1001 events ahead of a wrong one", make([]api.Event, 1001), api.Event{}, api.ErrMany},
	} {
		wantError(t, "Accepts of "+row.what, yard.Accepts(row.events, row.e), row.err)
		p, at, e := yard.Replay(append(slices.Clone(row.events), row.e))
		if row.err == api.OK {
			wantError(t, "Replay of "+row.what, e, api.OK)
			continue
		}
		place := len(row.events) + 1
		if strings.Contains(row.what, "ahead of a wrong one") {
			place = len(row.events) % 1001
		}
		wantAt(t, "Replay of "+row.what, p, at, e, yard.Project{}, place, row.err)
	}
}

func TestMergesOfBranches(t *testing.T) {
	draw := func(number int, branch, lines string) api.Event {
		return event(strconv.Itoa(number)+" draw "+branch, "frame H\n"+lines)
	}
	p, q, r := "post p 0 0 0 1 1 1\n", "post q 5 0 0 1 1 1\n", "post r 9 0 0 1 1 1\n"
	tall := strings.Replace(p, "1 1 1", "2 1 1", 1)
	for _, row := range []struct {
		what   string
		events []api.Event
		lines  string
		e      api.Errno
	}{
		{"branches without a base", []api.Event{draw(1, "a", p), draw(2, "b", q)}, p + q, api.OK},
		{"branches without a base with the same member", []api.Event{draw(1, "a", p+q), draw(2, "b", r+p)}, p + q + r, api.OK},
		{"branches without a base with another member", []api.Event{draw(1, "a", p), draw(2, "b", tall)}, "", api.ErrConflict},
		{"a branch that has not changed", []api.Event{draw(1, "a", p), event("2 branch b a", ""), draw(3, "b", q)}, q, api.OK},
		{"two changes", []api.Event{draw(1, "a", p), event("2 branch b a", ""), draw(3, "b", tall), draw(4, "a", p+q)}, tall + q, api.OK},
		{"two changes of a member", []api.Event{draw(1, "a", p), event("2 branch b a", ""), draw(3, "b", tall), draw(4, "a", q)}, "", api.ErrConflict},
		{"a joint of a member that is gone", []api.Event{draw(1, "a", p+q), event("2 branch b a", ""), draw(3, "b", q), draw(4, "a", p+q+"housing p q\n")}, "", api.ErrUnknown},
		{"members that are too many", []api.Event{
			draw(1, "a", "bent x\n"+p+"end\nrow x a 33 2 0 0\n"), draw(2, "b", "bent x\n"+p+"end\nrow x b 32 2 0 0\n"),
		}, "", api.ErrMany},
	} {
		number := len(row.events) + 1
		merge := event(strconv.Itoa(number)+" merge a b", "")
		wantError(t, "Accepts of a merge of "+row.what, yard.Accepts(row.events, merge), row.e)
		p, at, e := yard.Replay(append(slices.Clone(row.events), merge))
		if row.e != api.OK {
			wantAt(t, "Replay of a merge of "+row.what, p, at, e, yard.Project{}, number, row.e)
			continue
		}
		wantError(t, "Replay of a merge of "+row.what, e, api.OK)
		want(t, "the merge of "+row.what, p.Versions[len(p.Versions)-1].Timbers, 0, timbers(row.lines), 0)
	}
}

func TestBranchesAreInOrder(t *testing.T) {
	var events []api.Event
	for i, name := range []string{"b", "a_", "B", "a1", "a", "Z9", "aa"} {
		events = append(events, event(strconv.Itoa(i+1)+" draw "+name, "frame H\n"))
	}
	p, _, e := yard.Replay(events)
	wanted := []yard.Branch{{Name: "B", Version: 3}, {Name: "Z9", Version: 6}, {Name: "a", Version: 5}, {Name: "a1", Version: 4}, {Name: "a_", Version: 2}, {Name: "aa", Version: 7}, {Name: "b", Version: 1}}
	want(t, "the branches", p.Branches, e, wanted, api.OK)
}

// notes returns so many notes.
func notes(count int) []api.Event {
	l := make([]api.Event, count)
	for i := range l {
		l[i] = event(strconv.Itoa(i+1)+" note", strconv.Itoa(i))
	}
	return l
}

func TestManyEvents(t *testing.T) {
	p, at, e := yard.Replay(notes(1000))
	wantAt(t, "Replay of 1000 events", len(p.Notes), at, e, 1000, 0, api.OK)
	p, at, e = yard.Replay(append(notes(1000), event("1000 note", "")))
	wantAt(t, "Replay of 1001 events", p, at, e, yard.Project{}, 0, api.ErrMany)
	wrong := notes(1000)
	wrong[0].Kind, wrong[999].Number = "saw", 1
	p, at, e = yard.Replay(append(wrong, api.Event{}))
	wantAt(t, "Replay of 1001 wrong events", p, at, e, yard.Project{}, 0, api.ErrMany)
	wrong[0].Kind = "note"
	p, at, e = yard.Replay(wrong)
	wantAt(t, "Replay of 1000 events, the last of them wrong", p, at, e, yard.Project{}, 1000, api.ErrOrder)
	for _, row := range []struct {
		what   string
		events []api.Event
		e      api.Event
		err    api.Errno
	}{
		{"the event 1000", notes(999), event("1000 undo", ""), api.OK},
		{"the event 1001", notes(1000), event("1001 undo", ""), api.ErrRange},
		{"the event 1000 behind 1000", notes(1000), event("1000 undo", ""), api.ErrMany},
		{"the event 1 behind 1000", notes(1000), event("1 branch a b", ""), api.ErrMany},
		{"a wrong event behind 1000", notes(1000), event("1 branch a", ""), api.ErrShape},
		{"an event behind 1001", notes(1001), event("1000 undo", ""), api.ErrMany},
		{"a wrong event behind 1000 wrong ones", wrong, event("1 branch a", ""), api.ErrOrder},
	} {
		wantError(t, "Accepts of "+row.what, yard.Accepts(row.events, row.e), row.err)
	}
	half := notes(1000)
	for i := range 500 {
		half[500+i] = event(strconv.Itoa(501+i)+" undo", "")
	}
	p, at, e = yard.Replay(half)
	wantAt(t, "Replay of 500 notes and as many undos", p, at, e, yard.Project{}, 0, api.OK)
}

// world is a project by the definition.
type world struct {
	branches map[string]int
	versions map[int]yard.Version
	notes    []string
}

// after returns the world that counting events have made one after another.
func after(counting []api.Event) world {
	w := world{branches: map[string]int{}, versions: map[int]yard.Version{}}
	for _, e := range counting {
		switch e.Kind {
		case "note":
			w.notes = append(w.notes, e.Text)
		case "branch":
			w.branches[e.Names[0]] = w.branches[e.Names[1]]
		case "draw":
			v := yard.Version{Number: e.Number}
			if before, ok := w.branches[e.Names[0]]; ok {
				v.Parents = []int{before}
			}
			p, _, _ := yard.Read(e.Text)
			v.Timbers = sure(yard.Expand(p))
			w.versions[e.Number], w.branches[e.Names[0]] = v, e.Number
		case "merge":
			into, from := w.branches[e.Names[0]], w.branches[e.Names[1]]
			v := yard.Version{Number: e.Number, Parents: []int{into, from}}
			v.Timbers, _, _ = yard.Merge(w.versions[w.base(into, from)].Timbers, w.versions[into].Timbers, w.versions[from].Timbers)
			w.versions[e.Number], w.branches[e.Names[0]] = v, e.Number
		}
	}
	return w
}

// comes reports whether a version comes from another one.
func (w world) comes(from, to int) bool {
	return from == to || slices.ContainsFunc(w.versions[from].Parents, func(parent int) bool { return w.comes(parent, to) })
}

// base returns the base of two versions.
func (w world) base(a, b int) int {
	base := 0
	for number := range w.versions {
		if w.comes(a, number) && w.comes(b, number) {
			base = max(base, number)
		}
	}
	return base
}

// project returns the project of a world.
func (w world) project() yard.Project {
	p := yard.Project{Notes: w.notes}
	for _, name := range slices.Sorted(maps.Keys(w.branches)) {
		p.Branches = append(p.Branches, yard.Branch{Name: name, Version: w.branches[name]})
	}
	for _, number := range slices.Sorted(maps.Keys(w.versions)) {
		p.Versions = append(p.Versions, w.versions[number])
	}
	return p
}

// refusal returns the error with which an event is not accepted behind so many events, or OK.
func (w world) refusal(before int, isEmpty bool, e api.Event) api.Errno {
	if e.Number != before+1 {
		return api.ErrOrder
	}
	switch e.Kind {
	case "draw":
		p, _, err := yard.Read(e.Text)
		if err == api.OK {
			_, err = yard.Expand(p)
		}
		return err
	case "branch":
		if _, ok := w.branches[e.Names[0]]; ok {
			return api.ErrTwice
		}
		if _, ok := w.branches[e.Names[1]]; !ok {
			return api.ErrUnknown
		}
	case "merge":
		into, isInto := w.branches[e.Names[0]]
		from, isFrom := w.branches[e.Names[1]]
		if !isInto || !isFrom {
			return api.ErrUnknown
		}
		if w.comes(into, from) {
			return api.ErrNone
		}
		_, _, err := yard.Merge(w.versions[w.base(into, from)].Timbers, w.versions[into].Timbers, w.versions[from].Timbers)
		return err
	case "undo":
		if isEmpty {
			return api.ErrEmpty
		}
	}
	return api.OK
}

// event returns an event that is seldom without sense.
func (s source) event(number int) api.Event {
	if s.Intn(20) == 0 {
		number += s.from(-1, 1)
	}
	e := api.Event{Number: max(number, 1), Kind: s.choice("draw", "draw", "branch", "branch", "merge", "merge", "note", "undo")}
	branch := func() string { return s.choice("a", "b", "c", "d") }
	switch e.Kind {
	case "draw":
		e.Names = []string{branch()}
		e.Text = "frame H\n"
		for _, name := range []string{"p", "q", "r"} {
			if s.Intn(3) > 0 {
				e.Text += "post " + name + " 0 0 0 " + s.choice("1", "1", "1", "1", "2") + " 1 1\n"
			}
		}
		if s.Intn(6) == 0 {
			e.Text += s.choice("housing p q\n", "end\n", "wall\n", "lap q r 1 1\n", "post z")
		}
	case "branch", "merge":
		e.Names = []string{branch(), branch()}
	case "note":
		e.Text = s.choice("", "x", "y\nz")
	}
	return e
}

func TestProjectsByTheDefinition(t *testing.T) {
	s := newSource(1012)
	counts := map[api.Errno]int{}
	for range 100 {
		var events, counting []api.Event
		for range 25 {
			e := s.event(len(events) + 1)
			w := after(counting)
			wanted := w.refusal(len(events), len(counting) == 0, e)
			err := yard.Accepts(events, e)
			wantError(t, "Accepts", err, wanted)
			counts[err]++
			if wanted != api.OK {
				p, at, err := yard.Replay(append(slices.Clone(events), e, e))
				wantAt(t, "Replay", p, at, err, yard.Project{}, len(events)+1, wanted)
				continue
			}
			events = append(events, e)
			if counting = append(counting, e); e.Kind == "undo" {
				counting = counting[:len(counting)-2]
			}
		}
		w := after(counting)
		p, at, e := yard.Replay(events)
		wantAt(t, "Replay", p, at, e, w.project(), 0, api.OK)
		for range 20 {
			a, b := s.from(0, len(events)+1), s.from(0, len(events)+1)
			base, e := yard.Base(events, a, b)
			if w.versions[a].Number == 0 || w.versions[b].Number == 0 {
				want(t, "Base", base, e, 0, api.ErrUnknown)
				continue
			}
			want(t, "Base", base, e, w.base(a, b), api.OK)
		}
	}
	if counts[api.OK] < 1000 || counts[api.ErrConflict] < 20 || counts[api.ErrNone] < 50 || counts[api.ErrTwice] < 50 {
		t.Errorf("too few of a kind: %v", counts)
	}
}

func TestProjectsShareNoMemory(t *testing.T) {
	lines := "post p 0 0 0 1 1 1\npost q 5 0 0 1 1 1\nlap p q 1 0\n"
	events := []api.Event{event("1 draw a", "frame H\n"+lines), event("2 draw b", "frame H\n"+lines), event("3 merge a b", ""), event("4 merge b a", "")}
	first, _, _ := yard.Replay(events)
	second, _, _ := yard.Replay(events)
	for i := range second.Versions {
		v := &second.Versions[i]
		v.Timbers.Members[0].Name, v.Timbers.Joints[0].Numbers[0] = strconv.Itoa(i), api.Rat(strconv.Itoa(i))
		for j := range v.Parents {
			v.Parents[j] = 7 * i
		}
	}
	for i, v := range second.Versions {
		want(t, "a name", v.Timbers.Members[0].Name, 0, strconv.Itoa(i), 0)
		want(t, "a number", v.Timbers.Joints[0].Numbers[0], 0, api.Rat(strconv.Itoa(i)), 0)
	}
	third, _, e := yard.Replay(events)
	want(t, "Replay again", third, e, first, api.OK)
	want(t, "the events", events[2].Names, 0, []string{"a", "b"}, 0)
}
