package yard_test

import (
	"slices"
	"strconv"
	"strings"
	"testing"

	"trunnel/api"
	"trunnel/cut"
	"trunnel/joint"
	"trunnel/raise"
	"trunnel/solid"
	"trunnel/yard"
)

// P10.6

// escaped returns the escaped form of a text.
func escaped(text string) string {
	return strings.ReplaceAll(strings.ReplaceAll(text, "\\", "\\\\"), "\n", "\\n")
}

// dialogue is a line of a session with its answer.
type dialogue struct {
	line, answer string
	e            api.Errno
}

// talk compares the answers of a session, and looks whether errors and questions change nothing.
func talk(t *testing.T, s *yard.Session, rows ...dialogue) {
	t.Helper()
	for _, row := range rows {
		before, log := s.Events(), s.Log()
		answer, e := s.Do(row.line)
		want(t, "Do of "+row.line, answer, e, row.answer, row.e)
		if strings.HasPrefix(row.answer, "event ") {
			before = s.Events()[:len(before)]
			wanted := "event " + strconv.Itoa(len(s.Events()))
			want(t, "the number of events behind "+row.line, row.answer, 0, wanted, 0)
			if !strings.HasPrefix(s.Log(), log) || s.Log() != logOf(s.Events()...) {
				t.Errorf("the log behind %s is not the longer one", row.line)
			}
			continue
		}
		want(t, "the events behind "+row.line, s.Events(), 0, before, 0)
		want(t, "the log behind "+row.line, s.Log(), 0, log, 0)
	}
}

func TestSessionOfTheExample(t *testing.T) {
	s := yard.New()
	talk(t, s,
		dialogue{"members main", "", api.ErrUnknown},
		dialogue{"undo", "", api.ErrEmpty},
		dialogue{"draw main " + escaped(hall), "event 1", api.OK},
		dialogue{"members main", "n1_p n2_p n3_p t", api.OK},
		dialogue{"weight main", "27", api.OK},
		dialogue{"volume main t", "9", api.OK},
		dialogue{"cuts main t", "none", api.OK},
		dialogue{"findings main", "none", api.OK},
		dialogue{"order main", "", api.ErrFalls},
		dialogue{"text main", escaped(sure(yard.Print(sure(yard.From(timbers(hallLines), "main"))))), api.OK},
		dialogue{"branch side main", "event 2", api.OK},
		dialogue{"draw side " + escaped(strings.Replace(hall, "w 4", "w 5", 1)), "event 3", api.OK},
		dialogue{"draw main " + escaped(hall+"post z 0 9 0 1 1 1\n"), "event 4", api.OK},
		dialogue{"merge main side", "event 5", api.OK},
		dialogue{"weight main", "30", api.OK},
		dialogue{"weight side", "29", api.OK},
		dialogue{"undo", "event 6", api.OK},
		dialogue{"weight main", "28", api.OK},
	)
	want(t, "the log", s.Log(), 0, logOf(append(story(), event("6 undo", ""))...), 0)
	want(t, "the events", s.Events(), 0, append(story(), event("6 undo", "")), 0)
}

func TestLinesOfEvents(t *testing.T) {
	tenth := strings.Repeat("x", 4096)
	s := yard.New()
	talk(t, s,
		dialogue{"note", "", api.ErrSyntax},
		dialogue{"note ", "event 1", api.OK},
		dialogue{"note  a \\n\\\\", "event 2", api.OK},
		dialogue{"note \\", "", api.ErrSyntax},
		dialogue{"note \\x", "", api.ErrSyntax},
		dialogue{"note " + tenth, "event 3", api.OK},
		dialogue{"note " + tenth + "x", "", api.ErrLong},
		dialogue{"note " + strings.Repeat("\\n", 4096), "event 4", api.OK},
		dialogue{"note " + strings.Repeat("\\n", 4097), "", api.ErrLong},
		dialogue{"undo ", "", api.ErrSyntax},
		dialogue{"undo x", "", api.ErrSyntax},
		dialogue{"draw", "", api.ErrSyntax},
		dialogue{"draw ", "", api.ErrSyntax},
		dialogue{"draw main", "", api.ErrSyntax},
		dialogue{"draw main ", "", api.ErrTorn},
		dialogue{"draw  frame H\\n", "", api.ErrSyntax},
		dialogue{"draw 1 frame H\\n", "", api.ErrName},
		dialogue{"draw main\tx frame H\\n", "", api.ErrName},
		dialogue{"draw main frame H", "", api.ErrTorn},
		dialogue{"draw main frame H\\nwall\\n", "", api.ErrSyntax},
		dialogue{"draw main frame H\\\\n", "", api.ErrTorn},
		dialogue{"draw main frame H\\npost p v 0 0 1 1 1\\n", "", api.ErrUnknown},
		dialogue{"draw main frame H\\n", "event 5", api.OK},
		dialogue{"branch side", "", api.ErrSyntax},
		dialogue{"branch side ", "", api.ErrSyntax},
		dialogue{"branch side main ", "", api.ErrSyntax},
		dialogue{"branch  side main", "", api.ErrSyntax},
		dialogue{"branch side  main", "", api.ErrSyntax},
		dialogue{"branch side main x", "", api.ErrSyntax},
		dialogue{"branch 1 main", "", api.ErrName},
		dialogue{"branch main x", "", api.ErrTwice},
		dialogue{"branch side x", "", api.ErrUnknown},
		dialogue{"branch side main", "event 6", api.OK},
		dialogue{"merge main", "", api.ErrSyntax},
		dialogue{"merge main side", "", api.ErrNone},
		dialogue{"merge main 2", "", api.ErrName},
		dialogue{"merge main x", "", api.ErrUnknown},
		dialogue{"draw main frame H\\npost p 0 0 0 1 1 1\\n", "event 7", api.OK},
		dialogue{"draw side frame H\\npost p 0 0 0 2 1 1\\n", "event 8", api.OK},
		dialogue{"merge main side", "", api.ErrConflict},
	)
	for range 6 { // the notes and the drawings that count
		_, e := s.Do("undo")
		wantError(t, "undo", e, api.OK)
	}
	talk(t, s, dialogue{"members main", "", api.ErrUnknown}, dialogue{"undo", "event 15", api.OK}, dialogue{"undo", "event 16", api.OK}, dialogue{"undo", "", api.ErrEmpty})
}

func TestLinesThatAreNone(t *testing.T) {
	s := yard.New()
	talk(t, s,
		dialogue{"draw main frame H\\npost p 0 0 0 1 1 1\\n", "event 1", api.OK},
		dialogue{"", "", api.ErrSyntax},
		dialogue{"\n", "", api.ErrSyntax},
		dialogue{"undo\n", "", api.ErrSyntax},
		dialogue{"walls\nmain", "", api.ErrSyntax},
		dialogue{"note a\nb", "", api.ErrSyntax},
		dialogue{" ", "", api.ErrKind},
		dialogue{" undo", "", api.ErrKind},
		dialogue{"walls", "", api.ErrKind},
		dialogue{"walls main", "", api.ErrKind},
		dialogue{"walls  1", "", api.ErrKind},
		dialogue{"Weight main", "", api.ErrKind},
		dialogue{"weight\tmain", "", api.ErrKind},
		dialogue{"1 undo", "", api.ErrKind},
		dialogue{"events", "", api.ErrKind},
		dialogue{strings.Repeat("x", 8392), "", api.ErrKind},
		dialogue{strings.Repeat("x", 8393), "", api.ErrLong},
		dialogue{strings.Repeat("\n", 8392), "", api.ErrSyntax},
		dialogue{strings.Repeat("\n", 8393), "", api.ErrLong},
	)
	for _, word := range []string{"members", "weight", "findings", "text", "order"} {
		talk(t, s,
			dialogue{word, "", api.ErrSyntax},
			dialogue{word + " ", "", api.ErrSyntax},
			dialogue{word + "  main", "", api.ErrSyntax},
			dialogue{word + " main ", "", api.ErrSyntax},
			dialogue{word + " main main", "", api.ErrSyntax},
			dialogue{word + " 1 2", "", api.ErrSyntax},
			dialogue{word + " 1", "", api.ErrName},
			dialogue{word + " main\t", "", api.ErrName},
			dialogue{word + " " + long(25), "", api.ErrName},
			dialogue{word + " " + long(24), "", api.ErrUnknown},
			dialogue{word + " p", "", api.ErrUnknown},
		)
	}
	for _, word := range []string{"volume", "cuts"} {
		talk(t, s,
			dialogue{word, "", api.ErrSyntax},
			dialogue{word + " main", "", api.ErrSyntax},
			dialogue{word + " main ", "", api.ErrSyntax},
			dialogue{word + " main p ", "", api.ErrSyntax},
			dialogue{word + " main  p", "", api.ErrSyntax},
			dialogue{word + " main p p", "", api.ErrSyntax},
			dialogue{word + " 1 p", "", api.ErrName},
			dialogue{word + " main 1", "", api.ErrName},
			dialogue{word + " x 1", "", api.ErrName},
			dialogue{word + " x p", "", api.ErrUnknown},
			dialogue{word + " x y", "", api.ErrUnknown},
			dialogue{word + " main main", "", api.ErrUnknown},
		)
	}
}

// frames are plans for questions: with tenons and pegs, with members that overlap, heavy ones, and of nothing.
func frames() []string {
	sill, post, arm := "beam sill 0 0 0 10 2 2\n", "member post 4 0 2 1 0 0 0 1 0 0 0 1 2 2 6\n", "beam arm 6 0 6 8 2 2\n"
	return []string{
		"",
		sill,
		arm + sill + post + "housing sill post\nhousing post arm\n",
		"beam sill 0 0 0 3 2 2\n" + post + "beam arm 2 0 6 20 2 2\nhousing sill post\nhousing post arm\n",
		"beam P 0 0 0 10 4 4\nmember Q 4 1 -6 0 0 1 1 0 0 0 1 0 8 2 2\ntenon Q P 0 8 1/2 3/2 0 2\n",
		"beam P 0 0 0 10 4 4\nmember Q 4 1 -6 0 0 1 1 0 0 0 1 0 8 2 2\ntenon Q P 0 8 1/2 3/2 0 2\npeg P Q 5 1 1/4 0 4\n",
		"beam P 0 0 0 10 4 4\nmember Q 4 1 -6 0 0 1 1 0 0 0 1 0 8 2 2\n",
		"beam P 0 0 0 10 4 4\nbeam Q 3 1 1 1 1 1\nhousing Q P\n",
		"beam P 0 0 0 10 4 4\nbeam Q 0 4 0 10 4 4\npeg P Q 1/8 1 1/4 0 8\npeg P Q 5 1 1/4 0 8\n",
		"beam P 0 0 0 10 4 4\nbeam Q 0 4 0 10 4 4\npeg P Q 5 1 1/2 0 8\n",
		"beam a 0 0 0 1 1 1\nbeam b 1 0 0 1 1/2 1/2\nhousing a b\n",
		"bent b\npost p 0 0 0 1 1 1\nend\nrow b n 9 2 0 0\n",
		"bent b\nbeam p 0 0 0 1 1 1\nend\nrow b n 4 1 0 1\nhousing n1_p n2_p\n",
		"param x 1000000000000000\n",
	}
}

func TestDirectionsOfOrders(t *testing.T) {
	// A block in a case with one open side comes in last, through this side.
	walls := []string{"beam west 0 0 1 1 10 3\n", "beam east 9 0 1 1 10 3\n", "beam south 1 0 1 8 1 3\n", "beam north 1 9 1 8 1 3\n"}
	for open := range walls {
		text, answer, last := "beam floor 0 0 0 10 10 1\n", "floor 0", ""
		for i, wall := range walls {
			if i != open {
				last = strings.Fields(wall)[1]
				text += wall + "housing floor " + last + "\n"
				answer += " " + last + " 0"
			}
		}
		text += "beam roof 0 0 4 10 10 1\nhousing roof " + last + "\nbeam block 3 3 1 4 4 3\nhousing block floor\n"
		talk(t, yard.New(),
			dialogue{"draw main " + escaped("frame H\n"+text), "event 1", api.OK},
			dialogue{"order main", answer + " roof 0 block " + strconv.Itoa(open+1), api.OK},
		)
	}
}

// answers returns what a session has to answer to questions about timbers, by the functions of the layers.
func answers(t api.Timbers) []dialogue {
	list := func(words []string, e api.Errno) (string, api.Errno) {
		if e != api.OK {
			return "", e
		}
		if len(words) == 0 {
			return "none", api.OK
		}
		return strings.Join(words, " "), api.OK
	}
	var rows []dialogue
	add := func(line, answer string, e api.Errno) {
		if e != api.OK {
			answer = ""
		}
		rows = append(rows, dialogue{line, answer, e})
	}
	var names, kinds, moves []string
	for _, m := range t.Members {
		names = append(names, m.Name)
	}
	answer, e := list(names, api.OK)
	add("members main", answer, e)
	weight, e := joint.Weight(t)
	add("weight main", string(weight), e)
	findings, e := joint.Report(t, joint.Rules{Touch: "0", Wood: "0", Edge: "0"})
	for _, f := range findings {
		kinds = append(kinds, f.Kind)
	}
	answer, e = list(kinds, e)
	add("findings main", answer, e)
	plan, e := yard.From(t, "main")
	text, _ := yard.Print(plan)
	add("text main", escaped(text), e)
	order, e := raise.Order(t, []api.Vec{vec("0 0 -1"), vec("1 0 0"), vec("-1 0 0"), vec("0 1 0"), vec("0 -1 0")}, nil)
	for _, m := range order {
		moves = append(moves, m.Member, strconv.Itoa(m.Direction))
	}
	answer, e = list(moves, e)
	add("order main", answer, e)
	for k, name := range names {
		finished, _ := joint.Finished(t, k)
		volume, e := solid.Volume(finished)
		add("volume main "+name, string(volume), e)
		plan, e := cut.Plan(t, k)
		text, _ := cut.Print(plan)
		if text == "" {
			text = "none"
		}
		add("cuts main "+name, escaped(text), e)
	}
	return rows
}

func TestQuestionsByTheLayers(t *testing.T) {
	var all []string
	for _, lines := range frames() {
		lines = strings.ReplaceAll(lines, "param x 1000000000000000\n", "post p 1/(999999999*999999999) 0 0 1 1 1\n")
		s := yard.New()
		talk(t, s, dialogue{"draw main " + escaped("frame H\n"+lines), "event 1", api.OK})
		for _, row := range answers(timbers(lines)) {
			talk(t, s, row)
			all = append(all, strings.Fields(row.line)[0]+" "+strconv.Itoa(int(row.e))+" "+row.answer)
		}
	}
	for _, wanted := range []string{
		"members 0 none", "members 0 arm sill post", "weight 0 0", "weight 0 40", "findings 0 none", "findings 0 clash", "text 0 frame main\\n", "text 3 ",
		"order 0 none", "order 0 sill 0 post 0 arm 0", "order 27 ", "order 22 ", "volume 0 156", "volume 0 28", "cuts 0 none",
		"cuts 0 pocket bottom -1 0 0 -9/2 0 -1 0 -1 0 0 1 2 0 1 0 3 1 0 0 11/2\\n", "cuts 20 ", "findings 0 edge",
	} {
		if !slices.Contains(all, wanted) {
			t.Errorf("no question has the answer %q: %q", wanted, all)
		}
	}
}

func TestQuestionsGoToTheVersionOfTheBranch(t *testing.T) {
	s := yard.New()
	talk(t, s,
		dialogue{"draw a frame H\\nbeam p 0 0 0 1 1 1\\n", "event 1", api.OK},
		dialogue{"branch b a", "event 2", api.OK},
		dialogue{"draw a frame H\\nbeam p 0 0 0 2 1 1\\n", "event 3", api.OK},
		dialogue{"weight a", "2", api.OK},
		dialogue{"weight b", "1", api.OK},
		dialogue{"text b", "frame b\\nmember p 0 0 0 1 0 0 0 1 0 0 0 1 1 1 1\\n", api.OK},
		dialogue{"merge b a", "event 4", api.OK},
		dialogue{"volume b p", "2", api.OK},
		dialogue{"draw b frame H\\n", "event 5", api.OK},
		dialogue{"volume b p", "", api.ErrUnknown},
		dialogue{"members b", "none", api.OK},
		dialogue{"weight b", "0", api.OK},
		dialogue{"order b", "none", api.OK},
		dialogue{"findings b", "none", api.OK},
		dialogue{"undo", "event 6", api.OK},
		dialogue{"undo", "event 7", api.OK},
		dialogue{"volume b p", "1", api.OK},
		dialogue{"undo", "event 8", api.OK},
		dialogue{"undo", "event 9", api.OK},
		dialogue{"volume b p", "", api.ErrUnknown},
		dialogue{"volume a p", "1", api.OK},
	)
}

func TestOpenedSessions(t *testing.T) {
	log := logOf(story()...)
	s, e := yard.Open(log)
	wantError(t, "Open", e, api.OK)
	want(t, "the events", s.Events(), 0, story(), 0)
	want(t, "the log", s.Log(), 0, log, 0)
	talk(t, s, dialogue{"weight main", "30", api.OK}, dialogue{"undo", "event 6", api.OK}, dialogue{"weight main", "28", api.OK})

	s, e = yard.Open(log + "90720")
	wantError(t, "Open of a torn log", e, api.OK)
	want(t, "the log", s.Log(), 0, log, 0)
	s, e = yard.Open("")
	wantError(t, "Open of nothing", e, api.OK)
	talk(t, s, dialogue{"note x", "event 1", api.OK})
	s, e = yard.Open("x")
	wantError(t, "Open of a torn beginning", e, api.OK)
	want(t, "the log", s.Log(), 0, "", 0)

	many := logOf(notes(1000)...)
	for _, row := range []struct {
		what, log string
		e         api.Errno
	}{
		{"a wrong line", log + "x\n", api.ErrSyntax},
		{"a wrong check sum", log + "90721 1 undo\n", api.ErrSum},
		{"a long line", log + strings.Repeat("1", 8393) + "\n", api.ErrLong},
		{"a long log", strings.Repeat("x", api.MaxLog+1), api.ErrLong},
		{"1001 events", many + "90720 1 undo\n", api.ErrMany},
		{"a wrong number", log + "90720 1 undo\n", api.ErrOrder},
		{"an event that is not accepted", logOf(event("1 undo", "")), api.ErrEmpty},
		{"an event that is not accepted, and a torn one", logOf(event("1 branch a b", "")) + "x", api.ErrUnknown},
		{"an event that is not accepted, and a wrong line", logOf(event("1 undo", "")) + "x\n", api.ErrSyntax},
		{"a plan that is none", logOf(event("1 draw a", "frame H\nend\n")), api.ErrState},
	} {
		s, e := yard.Open(row.log)
		wantError(t, "Open with "+row.what, e, row.e)
		if s != nil {
			t.Errorf("Open with %s: got a session beside an error", row.what)
		}
	}
}

func TestSessionsOf1000Events(t *testing.T) {
	s, e := yard.Open(logOf(notes(999)...))
	wantError(t, "Open", e, api.OK)
	talk(t, s,
		dialogue{"undo", "event 1000", api.OK},
		dialogue{"undo", "", api.ErrMany},
		dialogue{"branch 1 2", "", api.ErrMany},
		dialogue{"note " + strings.Repeat("x", 4097), "", api.ErrMany},
		dialogue{"undo x", "", api.ErrSyntax},
		dialogue{"weight main", "", api.ErrUnknown},
	)
}

func TestSessionsWithLongLogs(t *testing.T) {
	s := yard.New()
	for i := range 300 {
		answer, e := s.Do("note " + strings.Repeat("x", 4096))
		want(t, "Do", answer, e, "event "+strconv.Itoa(i+1), api.OK)
	}
	if log := s.Log(); len(log) <= api.MaxLog || strings.Count(log, "\n") != 300 {
		t.Errorf("Log: got %d bytes", len(log))
	}
}

func TestNilSessions(t *testing.T) {
	var none *yard.Session
	for _, line := range []string{"undo", "", "\n", "walls", "weight main", strings.Repeat("x", 8393)} {
		answer, e := none.Do(line)
		want(t, "Do of a nil session", answer, e, "", api.ErrState)
	}
	want(t, "Events of a nil session", none.Events(), 0, nil, 0)
	want(t, "Log of a nil session", none.Log(), 0, "", 0)
	talk(t, new(yard.Session), dialogue{"undo", "", api.ErrEmpty}, dialogue{"note x", "event 1", api.OK})
	want(t, "Events of a new session", yard.New().Events(), 0, nil, 0)
	want(t, "Log of a new session", yard.New().Log(), 0, "", 0)
}

func TestSessionsShareNoMemory(t *testing.T) {
	s, _ := yard.Open(logOf(story()...))
	events := s.Events()
	for i := range events {
		for j := range events[i].Names {
			events[i].Names[j] = "changed"
		}
		events[i].Kind = "changed"
	}
	want(t, "the events", s.Events(), 0, story(), 0)
	other := *s
	talk(t, s, dialogue{"note a", "event 6", api.OK})
	talk(t, &other, dialogue{"note b", "event 6", api.OK})
	want(t, "the events", s.Events()[5], 0, event("6 note", "a"), 0)
	want(t, "the events of another one", other.Events()[5], 0, event("6 note", "b"), 0)
	talk(t, yard.New(), dialogue{"weight main", "", api.ErrUnknown})
}
