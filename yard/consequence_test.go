package yard_test

import (
	"cmp"
	"slices"
	"strconv"
	"strings"
	"testing"

	"trunnel/api"
	"trunnel/yard"
)

// P10.7

func TestPrintedPlansHaveTheSameTimbers(t *testing.T) {
	s := newSource(1014)
	for range 500 {
		p := s.frame()
		wanted, wantedErr := yard.Expand(p)
		back, _, e := yard.Read(sure(yard.Print(p)))
		wantError(t, "Read", e, api.OK)
		got, e := yard.Expand(back)
		want(t, "Expand", got, e, wanted, wantedErr)
	}
}

func TestRowsAreListsOfPlaces(t *testing.T) {
	s := newSource(1015)
	good := 0
	for range 300 {
		bent := "param w 2/3\nbent b\npost p 0 0 0 1 1 1\nbeam q 3 w 0 1 1 1\nhousing p q\nend\n"
		n := s.from(1, 12)
		shift := [3]string{s.choice("w", "-1", "0"), s.choice("9", "w/2", "0"), s.choice("0", "3")}
		prefix := s.choice("n", "n_", long(20), long(21))
		row := bent + "row b " + prefix + " " + strconv.Itoa(n) + " " + strings.Join(shift[:], " ") + "\npost z 0 0 0 1 1 1\n"
		places := bent
		for k := range n {
			places += "place b " + prefix + strconv.Itoa(k+1)
			for _, x := range shift {
				places += " " + strconv.Itoa(k) + "*(" + x + ")"
			}
			places += "\n"
		}
		wanted, wantedErr := yard.Expand(plan(strings.NewReplacer("(w)", "w", "(0)", "0").Replace(places) + "post z 0 0 0 1 1 1\n"))
		got, e := yard.Expand(plan(row))
		want(t, "Expand of "+row, got, e, wanted, wantedErr)
		if e == api.OK {
			good++
		}
	}
	if good < 100 {
		t.Errorf("only %d rows are good", good)
	}
}

// sorted returns timbers in an order of their own.
func sorted(t api.Timbers) api.Timbers {
	t = api.Timbers{Members: slices.Clone(t.Members), Joints: slices.Clone(t.Joints)}
	slices.SortFunc(t.Members, func(x, y api.Member) int { return cmp.Compare(x.Name, y.Name) })
	text := func(j api.Joint) string {
		for _, number := range j.Numbers {
			j.Kind += " " + string(number)
		}
		return j.A + " " + j.B + " " + j.Kind
	}
	slices.SortFunc(t.Joints, func(x, y api.Joint) int { return cmp.Compare(text(x), text(y)) })
	return t
}

func TestMergesWithUnchangedTimbers(t *testing.T) {
	s := newSource(1016)
	for range 500 {
		base := s.posts()
		changed := s.altered(base)
		got, _, e := yard.Merge(base, changed, base)
		want(t, "Merge of what is changed and the base", got, e, changed, api.OK)
		got, _, e = yard.Merge(base, changed, changed)
		want(t, "Merge of equal changes", got, e, changed, api.OK)
		got, _, e = yard.Merge(base, base, changed)
		wantError(t, "Merge of the base and what is changed", e, api.OK)
		changes, e := yard.Diff(got, changed)
		want(t, "Diff of the merge of the base and what is changed", changes, e, nil, api.OK)
		want(t, "the members of this merge", sorted(got).Members, e, sorted(changed).Members, api.OK)
	}
}

func TestMergesInEitherOrder(t *testing.T) {
	base := posts("1p 2q 3r 4s p+q=1 r+s=1")
	s := newSource(1017)
	for range 500 {
		a, b := posts("1p 2q 3r 4s p+q=1 r+s=1"), posts("1p 2q 3r 4s p+q=1 r+s=1")
		if s.Intn(2) == 0 {
			a.Members[s.Intn(2)].Size[0] = "9"
		} else {
			a.Members, a.Joints = slices.Insert(a.Members, s.Intn(4), posts("5x").Members[0]), append(a.Joints, lap("p", "x", "2"))
		}
		if s.Intn(2) == 0 {
			b.Members[s.from(2, 3)].Size[1] = "9"
		} else {
			b.Members, b.Joints = slices.Insert(b.Members, s.Intn(4), posts("5y").Members[0]), b.Joints[s.Intn(2):]
		}
		one, _, e1 := yard.Merge(base, a, b)
		other, _, e2 := yard.Merge(base, b, a)
		want(t, "Merge in the other order", sorted(other), e2, sorted(one), e1)
		wantError(t, "Merge", e1, api.OK)
	}
}

func TestAnEventAndItsUndoLeaveTheProject(t *testing.T) {
	s := newSource(1018)
	for range 60 {
		var events []api.Event
		for range 25 {
			e := s.event(len(events) + 1)
			if e.Kind == "undo" || yard.Accepts(events, e) != api.OK {
				continue
			}
			before, _, _ := yard.Replay(events)
			behind := append(slices.Clone(events), e, event(strconv.Itoa(e.Number+1)+" undo", ""))
			after, at, err := yard.Replay(behind)
			wantAt(t, "Replay behind an undo", after, at, err, before, 0, api.OK)
			if events = append(events, e); s.Intn(4) == 0 {
				events = behind
			}
		}
	}
}

// lineOf returns the line with which a session does an event.
func lineOf(e api.Event) string {
	line := strings.Join(append([]string{e.Kind}, e.Names...), " ")
	if e.Kind == "draw" || e.Kind == "note" {
		line += " " + escaped(e.Text)
	}
	return line
}

func TestTheConsoleAcceptsWhatTheBookAccepts(t *testing.T) {
	s := newSource(1019)
	for range 60 {
		session := yard.New()
		var events []api.Event
		for range 25 {
			e := s.event(1)
			e.Number = len(events) + 1
			if s.Intn(12) == 0 && len(e.Names) > 0 {
				e.Names[0] = "1"
			}
			wanted := yard.Accepts(events, e)
			answer, err := session.Do(lineOf(e))
			if wanted != api.OK {
				want(t, "Do of "+lineOf(e), answer, err, "", wanted)
				continue
			}
			want(t, "Do of "+lineOf(e), answer, err, "event "+strconv.Itoa(e.Number), api.OK)
			events = append(events, e)
		}
		want(t, "Events", session.Events(), 0, events, 0)
		want(t, "Log", session.Log(), 0, logOf(events...), 0)
		project, _, e := yard.Replay(session.Events())
		wantError(t, "Replay of Events", e, api.OK)
		for _, branch := range project.Branches {
			i := slices.IndexFunc(project.Versions, func(v yard.Version) bool { return v.Number == branch.Version })
			var names []string
			for _, m := range project.Versions[i].Timbers.Members {
				names = append(names, m.Name)
			}
			answer, e := session.Do("members " + branch.Name)
			want(t, "members", answer, e, cmp.Or(strings.Join(names, " "), "none"), api.OK)
		}
		again, e := yard.Open(session.Log())
		wantError(t, "Open", e, api.OK)
		want(t, "the log of another session", again.Log(), 0, session.Log(), 0)
	}
}

// P1

func TestFunctionsReturnForAllTexts(t *testing.T) {
	s := newSource(1020)
	pieces := []string{"frame", "H", " ", " ", "\n", "param", "w", "1", "end", "bent", "undo", "draw", "note", "\\", "\\n", "(", "+", "90720", "\x00", "\xff", "é", "weight", "main", "999999999"}
	session := yard.New()
	for range 5000 {
		text := ""
		for range s.from(0, 12) {
			text += pieces[s.Intn(len(pieces))]
		}
		yard.ReadExpr(text)
		yard.Read(text)
		yard.Decode(text)
		yard.Recover(text)
		yard.Open(text)
		yard.Append(text, api.Event{Number: 1, Kind: text, Text: text})
		yard.CheckEvent(api.Event{Number: 1, Kind: "draw", Names: []string{text}, Text: text})
		yard.Value(yard.Expr{Op: text, Name: text}, []string{text}, []api.Rat{api.Rat(text)})
		yard.Rename(yard.Plan{Name: text, Lines: []yard.Line{{Kind: text, Names: []string{text}}}}, text, text)
		yard.From(api.Timbers{Members: []api.Member{{Name: text}}}, text)
		session.Do(text)
	}
}
