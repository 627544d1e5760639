package yard_test

import (
	"slices"
	"strconv"
	"strings"
	"testing"

	"trunnel/api"
	"trunnel/joint"
	"trunnel/yard"
)

// P10.4

// posts returns timbers with a post for each letter with a height in front, and with joints: a housing for p+q, a
// birdsmouth for p~q, a lap with a number for p+q=1, and a scarf with 1 and a number for p~q=1.
func posts(text string) api.Timbers {
	var t api.Timbers
	for word := range strings.FieldsSeq(text) {
		if at := strings.IndexAny(word, "+~"); at >= 0 {
			b, number, isNumbered := strings.Cut(word[at+1:], "=")
			j := api.Joint{A: word[:at], B: b, Kind: map[string]string{"+": "housing", "~": "birdsmouth"}[word[at:at+1]]}
			if isNumbered {
				j.Kind = map[string]string{"housing": "lap", "birdsmouth": "scarf"}[j.Kind]
				j.Numbers = []api.Rat{"1", api.Rat(number)}
			}
			t.Joints = append(t.Joints, j)
			continue
		}
		last := len(word) - 1
		t.Members = append(t.Members, member(word[last:], "0 0 0, 0 0 1, 1 0 0, 0 1 0, "+word[:last]+" 1 1"))
	}
	return t
}

// lap returns a joint as those of posts.
func lap(a, b string, number api.Rat) api.Joint {
	return api.Joint{Kind: "lap", A: a, B: b, Numbers: []api.Rat{"1", number}}
}

func TestDifferences(t *testing.T) {
	drop := func(kind, name string) yard.Change { return yard.Change{Kind: kind, Name: name} }
	join := func(kind string, j api.Joint) yard.Change { return yard.Change{Kind: kind, Joint: j} }
	for _, row := range []struct {
		a, b    string
		changes []yard.Change
	}{
		{"", "", nil},
		{"1p 2q p+q=1", "1p 2q p+q=1", nil},
		{"1p 2q", "2q 1p", nil},
		{"1p 2q 3r", "2q", []yard.Change{drop("drop", "p"), drop("drop", "r")}},
		{"2q", "3r 2q 1p", []yard.Change{drop("add", "r"), drop("add", "p")}},
		{"1p 2q 3r 4s", "9x 5s 2q 5p", []yard.Change{drop("alter", "p"), drop("drop", "r"), drop("alter", "s"), drop("add", "x")}},
		{"1p 2q p+q=1", "1p 2q q+p=1", []yard.Change{join("unjoin", lap("p", "q", "1")), join("join", lap("q", "p", "1"))}},
		{"1p 2q p+q=1", "1p 2q p+q=2", []yard.Change{join("unjoin", lap("p", "q", "1")), join("join", lap("p", "q", "2"))}},
		{"1p 2q p+q", "1p 2q p+q=2", []yard.Change{join("unjoin", api.Joint{Kind: "housing", A: "p", B: "q"}), join("join", lap("p", "q", "2"))}},
		{"1p 2q p+q=1 p+q=2", "1p 2q p+q=2 p+q=1", nil},
		{"1p 2q p+q=1 p+q=1", "1p 2q p+q=1", nil},
		{"1p 2q p+q=1", "1p 2q p+q=1 p+q=1", nil},
		{"1p 2q p+q=1 p+q=2 p+q=1", "1p 2q p+q=2", []yard.Change{join("unjoin", lap("p", "q", "1")), join("unjoin", lap("p", "q", "1"))}},
		{"1p 2q p+q=2", "1p 2q p+q=1 p+q=2 p+q=1", []yard.Change{join("join", lap("p", "q", "1")), join("join", lap("p", "q", "1"))}},
		{"1p 2q p+q", "1p 2q p~q", []yard.Change{join("unjoin", api.Joint{Kind: "housing", A: "p", B: "q"}), join("join", api.Joint{Kind: "birdsmouth", A: "p", B: "q"})}},
		{"1p 2q p~q=1", "1p 2q p+q=1", []yard.Change{join("unjoin", api.Joint{Kind: "scarf", A: "p", B: "q", Numbers: []api.Rat{"1", "1"}}), join("join", lap("p", "q", "1"))}},
		{"1p 2q p+q=1", "2r 1p p+r=1", []yard.Change{drop("drop", "q"), drop("add", "r"), join("unjoin", lap("p", "q", "1")), join("join", lap("p", "r", "1"))}},
	} {
		got, e := yard.Diff(posts(row.a), posts(row.b))
		want(t, "Diff of "+row.a+" and "+row.b, got, e, row.changes, api.OK)
	}
}

func TestMembersThatDiffer(t *testing.T) {
	a := timbers("member p 1 2 3 1 0 0 0 1 0 0 0 1 4 5 6\n")
	for _, change := range []func(m *api.Member){
		func(m *api.Member) { m.Frame.Origin[0] = "2" }, func(m *api.Member) { m.Frame.Origin[2] = "2" }, func(m *api.Member) { m.Frame.X[0] = "2" },
		func(m *api.Member) { m.Frame.Y[1] = "2" }, func(m *api.Member) { m.Frame.Z[2] = "2" }, func(m *api.Member) { m.Size[0] = "2" }, func(m *api.Member) { m.Size[2] = "2" },
	} {
		b := api.Timbers{Members: slices.Clone(a.Members)}
		change(&b.Members[0])
		got, e := yard.Diff(a, b)
		want(t, "Diff", got, e, []yard.Change{{Kind: "alter", Name: "p"}}, api.OK)
	}
}

func TestMerges(t *testing.T) {
	for _, row := range []struct{ base, a, b, merged, conflicts string }{
		{"", "", "", "", ""},
		{"1p 2q", "1p 2q", "1p 2q", "1p 2q", ""},
		{"1p 2q", "3p 2q", "1p 4q", "3p 4q", ""},
		{"1p 2q", "2q", "1p 4q", "4q", ""},
		{"1p 2q", "", "1p 2q", "", ""},
		{"1p 2q", "1p", "2q", "", ""},
		{"1p", "", "", "", ""},
		{"1p 2q", "2q 1p", "1p 2q", "2q 1p", ""},
		{"1p", "3x 1p 4y", "5z 1p 6w", "3x 1p 4y 5z 6w", ""},
		{"1p", "3x 1p", "1p 3x", "3x 1p", ""},
		{"1p", "1p 3x", "3x 1p", "1p 3x", ""},
		{"", "1p 2q", "2q 3r 1p", "1p 2q 3r", ""},
		{"1p 2q 3r", "7p 3r", "1p 2q 8r 9s", "7p 8r 9s", ""},
		{"1p", "2p", "2p", "2p", ""},
		{"1p", "2p", "3p", "", "p"},
		{"1p", "2p", "", "", "p"},
		{"1p", "", "2p", "", "p"},
		{"", "1p", "2p", "", "p"},
		{"1q 1p 1r", "2q 3p", "4q 1p 5r", "", "q r"},
		{"", "1c 1b 1a 1e", "2a 2b 2d 2c", "", "a b c"},
		{"1p", "9x 2p", "3p 9y", "", "p"},
		{"1p 2q p+q", "1p 2q", "1p 2q p+q", "1p 2q", ""},
		{"1p 2q p+q", "1p 2q p+q", "1p 2q", "1p 2q", ""},
		{"1p 2q", "1p 2q p+q", "1p 2q", "1p 2q p+q", ""},
		{"1p 2q", "1p 2q", "1p 2q p+q", "1p 2q p+q", ""},
		{"1p 2q", "1p 2q p+q", "1p 2q p+q", "1p 2q p+q", ""},
		{"1p 2q p+q", "1p 2q", "1p 2q", "1p 2q", ""},
		{"1p 2q p+q=1", "1p 2q p+q=2", "1p 2q p+q=3", "1p 2q p+q=2 p+q=3", ""},
		{"1p 2q p+q=1", "1p 2q p+q=3 p+q=1", "1p 2q p+q=4 p+q=1 p+q=5", "1p 2q p+q=3 p+q=1 p+q=4 p+q=5", ""},
		{"1p 2q", "1p 2q p+q=1 p+q=2", "1p 2q p+q=2 p+q=3 p+q=1", "1p 2q p+q=1 p+q=2 p+q=3", ""},
		{"1p 2q", "1p 2q p+q p+q", "1p 2q p+q", "1p 2q p+q p+q", ""},
		{"1p 2q", "1p 2q p+q", "1p 2q p+q p+q", "1p 2q p+q", ""},
		{"1p 2q", "1p 2q", "1p 2q p+q p+q", "1p 2q p+q p+q", ""},
		{"1p 2q p+q", "1p 2q p+q p+q", "1p 2q", "1p 2q", ""},
		{"1p 2q p+q", "1p 2q p+q p+q", "1p 2q p+q", "1p 2q p+q p+q", ""},
		{"1p 2q p+q", "1p", "1p 3q p+q=2", "", "q"},
		{"1p 2q p+q", "1p 2q p~q", "1p 2q p+q p+q=1", "1p 2q p~q p+q=1", ""},
		{"1p 2q", "1p 2q p~q=1", "1p 2q p+q=1", "1p 2q p~q=1 p+q=1", ""},
	} {
		merged, conflicts, e := yard.Merge(posts(row.base), posts(row.a), posts(row.b))
		wanted := api.OK
		if row.conflicts != "" {
			wanted = api.ErrConflict
		}
		what := "Merge of " + row.base + " to " + row.a + " and " + row.b
		want(t, what, merged, e, posts(row.merged), wanted)
		want(t, what, conflicts, e, strings.Fields(row.conflicts), wanted)
	}
}

// numbered returns so many posts beside each other, with a letter and a number as names.
func numbered(letter string, count int) api.Timbers {
	var t api.Timbers
	for i := range count {
		n := strconv.Itoa(i)
		t.Members = append(t.Members, member(letter+n, n+" 0 0, 0 0 1, 1 0 0, 0 1 0, 1 1 1"))
	}
	return t
}

// joined returns timbers with so many joints of the first two members.
func joined(t api.Timbers, count int, from int) api.Timbers {
	for i := range count {
		t.Joints = append(t.Joints, lap(t.Members[0].Name, t.Members[1].Name, api.Rat(strconv.Itoa(from+i))))
	}
	return t
}

func TestErrorsOfMerges(t *testing.T) {
	wrong := func(size string) api.Timbers { return api.Timbers{Members: posts(size + "p").Members} }
	two := func() api.Timbers { return numbered("m", 2) }
	for _, row := range []struct {
		what       string
		base, a, b api.Timbers
		e          api.Errno
	}{
		{"a wrong base", wrong("0"), wrong("x"), wrong(digitsOf(601)), api.ErrRange},
		{"a wrong first one", wrong("1"), wrong("x"), wrong("0"), api.ErrForm},
		{"a wrong second one", wrong("1"), wrong("2"), wrong("0"), api.ErrRange},
		{"65 members", numbered("m", 65), wrong("0"), wrong("0"), api.ErrMany},
		{"64 members in all", api.Timbers{}, numbered("m", 32), numbered("n", 32), api.OK},
		{"65 members in all", api.Timbers{}, numbered("m", 33), numbered("n", 32), api.ErrMany},
		{"65 members in all, and a conflict", api.Timbers{}, numbered("m", 64), api.Timbers{Members: append(numbered("n", 63).Members, member("m1", "0 0 0, 0 0 1, 1 0 0, 0 1 0, 1 1 1"))}, api.ErrConflict},
		{"64 joints in all", two(), joined(two(), 32, 0), joined(two(), 32, 32), api.OK},
		{"65 joints in all", two(), joined(two(), 33, 0), joined(two(), 32, 33), api.ErrMany},
		{"65 joints in all, and one of a member that is gone", joined(two(), 1, 99), joined(two(), 33, 0), api.Timbers{Members: two().Members[:1]}, api.ErrUnknown},
		{"65 joints, 33 of them of a member that is gone", numbered("m", 3), joined(numbered("m", 3), 33, 0), joined(api.Timbers{Members: numbered("m", 3).Members[1:]}, 32, 0), api.ErrMany},
		{"a joint of a member that is gone", posts("1p 2q"), posts("1p 2q p+q"), posts("1p"), api.ErrUnknown},
		{"a joint of a member that is gone, and a conflict", posts("1p 2q"), posts("3p 2q p+q"), posts("4p"), api.ErrConflict},
	} {
		merged, conflicts, e := yard.Merge(row.base, row.a, row.b)
		wantError(t, "Merge with "+row.what, e, row.e)
		if e != api.OK && len(merged.Members)+len(merged.Joints) > 0 || (len(conflicts) > 0) != (e == api.ErrConflict) {
			t.Errorf("Merge with %s: got %v and %v beside an error", row.what, merged, conflicts)
		}
	}
	for _, row := range []struct {
		what string
		a, b api.Timbers
		e    api.Errno
	}{
		{"a wrong first one", wrong("0"), wrong("x"), api.ErrRange}, {"a wrong second one", wrong("1"), wrong("x"), api.ErrForm},
		{"65 members", numbered("m", 64), numbered("m", 65), api.ErrMany}, {"64 members", numbered("m", 64), numbered("m", 64), api.OK},
	} {
		changes, e := yard.Diff(row.a, row.b)
		want(t, "Diff with "+row.what, changes, e, nil, row.e)
	}
}

func digitsOf(count int) string { return string(digits(count)) }

// lookup returns the member with a name, and whether there is one.
func lookup(t api.Timbers, name string) (api.Member, bool) {
	for _, m := range t.Members {
		if m.Name == name {
			return m, true
		}
	}
	return api.Member{}, false
}

// times returns how often a joint is in timbers.
func times(t api.Timbers, wanted api.Joint) int {
	count := 0
	for _, j := range t.Joints {
		if j.Kind == wanted.Kind && j.A == wanted.A && j.B == wanted.B && slices.Equal(j.Numbers, wanted.Numbers) {
			count++
		}
	}
	return count
}

// merge returns the merge by the definition.
func merge(base, a, b api.Timbers) (api.Timbers, []string, api.Errno) {
	var merged api.Timbers
	conflicts := map[string]bool{}
	for from, side := range []api.Timbers{a, b} {
		for _, m := range side.Members {
			if _, ok := lookup(a, m.Name); ok && from == 1 {
				continue
			}
			inBase, isInBase := lookup(base, m.Name)
			inA, isInA := lookup(a, m.Name)
			inB, isInB := lookup(b, m.Name)
			sameAB, sameA, sameB := isInA == isInB && inA == inB, isInA == isInBase && inA == inBase, isInB == isInBase && inB == inBase
			switch {
			case !sameAB && !sameA && !sameB:
				conflicts[m.Name] = true
			case sameA && !sameAB && isInB:
				merged.Members = append(merged.Members, inB)
			case !(sameA && !sameAB) && isInA:
				merged.Members = append(merged.Members, inA)
			}
		}
		for _, j := range side.Joints {
			isFirst := from == 0 || times(a, j) == 0
			if isFirst && (times(a, j) > 0 && times(b, j) > 0 || times(base, j) == 0) {
				merged.Joints = append(merged.Joints, j)
			}
		}
	}
	if len(conflicts) > 0 {
		var names []string
		for name := range conflicts {
			names = append(names, name)
		}
		slices.Sort(names)
		return api.Timbers{}, names, api.ErrConflict
	}
	if e := joint.CheckTimbers(merged); e != api.OK {
		return api.Timbers{}, nil, e
	}
	return merged, nil, api.OK
}

// posts returns posts with a few heights and joints.
func (s source) posts() api.Timbers {
	var words []string
	names := []string{"p", "q", "r", "s"}
	s.Shuffle(len(names), func(i, j int) { names[i], names[j] = names[j], names[i] })
	names = names[:s.from(0, 4)]
	for _, name := range names {
		words = append(words, s.choice("1", "1", "1", "2")+name)
	}
	for range s.Intn(4) {
		if len(names) > 1 {
			words = append(words, names[0]+s.choice("+", "+", "~")+names[1]+s.choice("", "=1", "=2"))
		}
	}
	return posts(strings.Join(words, " "))
}

// altered returns posts with a few changes.
func (s source) altered(t api.Timbers) api.Timbers {
	changed := api.Timbers{Members: slices.Clone(t.Members), Joints: slices.Clone(t.Joints)}
	for range s.Intn(3) {
		switch k := len(changed.Members); {
		case k > 0 && s.Intn(2) == 0:
			changed.Members[s.Intn(k)].Size[0] = api.Rat(strconv.Itoa(s.from(1, 4)))
		case k > 0 && s.Intn(3) == 0 && len(changed.Joints) == 0:
			changed.Members = slices.Delete(changed.Members, k-1, k)
		case s.Intn(3) == 0 && len(changed.Joints) > 0:
			changed.Joints = changed.Joints[1:]
		case s.Intn(2) == 0 && k > 1:
			changed.Joints = append(changed.Joints, lap(changed.Members[0].Name, changed.Members[1].Name, api.Rat(s.choice("1", "2", "3"))))
		default:
			if extra := posts(s.choice("1x", "1y", "2y", "1z")); !slices.ContainsFunc(changed.Members, func(m api.Member) bool { return m.Name == extra.Members[0].Name }) {
				changed.Members = append(changed.Members, extra.Members...)
			}
		}
	}
	return changed
}

func TestMergesByTheDefinition(t *testing.T) {
	s := newSource(1009)
	counts := map[api.Errno]int{}
	for range 3000 {
		base := s.posts()
		a, b := s.altered(base), s.altered(base)
		if s.Intn(4) == 0 {
			a, b = s.posts(), s.posts()
		}
		wanted, wantedNames, wantedErr := merge(base, a, b)
		got, names, e := yard.Merge(base, a, b)
		want(t, "Merge", got, e, wanted, wantedErr)
		want(t, "Merge", names, e, wantedNames, wantedErr)
		counts[e]++
	}
	if counts[api.OK] < 500 || counts[api.ErrConflict] < 400 || counts[api.ErrUnknown] < 20 {
		t.Errorf("too few of a kind: %v", counts)
	}
}

func TestDifferencesByTheDefinition(t *testing.T) {
	s := newSource(1010)
	for range 2000 {
		a := s.posts()
		b := s.altered(a)
		if s.Intn(3) == 0 {
			b = s.posts()
		}
		var wanted []yard.Change
		add := func(isThere bool, kind, name string, j api.Joint) {
			if isThere {
				wanted = append(wanted, yard.Change{Kind: kind, Name: name, Joint: j})
			}
		}
		for _, m := range a.Members {
			other, ok := lookup(b, m.Name)
			add(!ok, "drop", m.Name, api.Joint{})
			add(ok && other != m, "alter", m.Name, api.Joint{})
		}
		for _, m := range b.Members {
			_, ok := lookup(a, m.Name)
			add(!ok, "add", m.Name, api.Joint{})
		}
		for _, j := range a.Joints {
			add(times(b, j) == 0, "unjoin", "", j)
		}
		for _, j := range b.Joints {
			add(times(a, j) == 0, "join", "", j)
		}
		got, e := yard.Diff(a, b)
		want(t, "Diff", got, e, wanted, api.OK)
	}
}

func TestVersionsShareNoMemory(t *testing.T) {
	base, a, b := posts("1p 2q"), posts("1p 2q p+q=1"), posts("1p 2q p+q=2")
	merged, _, e := yard.Merge(base, a, b)
	wantError(t, "Merge", e, api.OK)
	changes := sure(yard.Diff(a, b))
	merged.Joints[0].Numbers[1], merged.Joints[1].Numbers[1] = "8", "9"
	merged.Members[0].Name = "changed"
	changes[0].Joint.Numbers[1], changes[1].Joint.Numbers[1] = "8", "9"
	want(t, "the base", base, 0, posts("1p 2q"), 0)
	want(t, "the first one", a, 0, posts("1p 2q p+q=1"), 0)
	want(t, "the second one", b, 0, posts("1p 2q p+q=2"), 0)
}
