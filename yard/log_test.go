package yard_test

import (
	"strconv"
	"strings"
	"testing"

	"trunnel/api"
	"trunnel/yard"
)

// P10.5: Append and Recover

// logOf returns the log of events.
func logOf(events ...api.Event) string {
	log := ""
	for _, e := range events {
		log += sure(yard.Encode(e)) + "\n"
	}
	return log
}

func TestLogOfTheExample(t *testing.T) {
	log := ""
	for _, e := range story() {
		var err api.Errno
		log, err = yard.Append(log, e)
		wantError(t, "Append", err, api.OK)
	}
	want(t, "Append", log, 0, logOf(story()...), 0)
	events, at, e := yard.Recover(log)
	wantAt(t, "Recover", events, at, e, story(), len(log), api.OK)
	events, at, e = yard.Recover("")
	wantAt(t, "Recover of nothing", events, at, e, nil, 0, api.OK)
}

func TestLogsNeedNotBeAccepted(t *testing.T) {
	strange := []api.Event{event("7 undo", ""), event("7 undo", ""), event("3 merge x y", ""), event("1 draw a", "no plan")}
	log := logOf(strange[:3]...)
	got, e := yard.Append(log, strange[3])
	want(t, "Append", got, e, logOf(strange...), api.OK)
	events, at, e := yard.Recover(got)
	wantAt(t, "Recover", events, at, e, strange, len(got), api.OK)
}

func TestLogsWithWrongEnds(t *testing.T) {
	begin := story()[:2]
	log := logOf(begin...)
	undo := "90720 1 undo\n"
	long := strings.Repeat("1", 8393)
	for _, row := range []struct {
		what, end string
		e         api.Errno
	}{
		{"a torn event", undo[:len(undo)-1], api.ErrTorn},
		{"a letter", "x", api.ErrTorn},
		{"a long text without a line feed", long, api.ErrTorn},
		{"an empty line", "\n", api.ErrSyntax},
		{"an empty line and an event", "\n" + undo, api.ErrSyntax},
		{"a line that is none", "x\n", api.ErrSyntax},
		{"a line that is none and a torn one", "x\nx", api.ErrSyntax},
		{"a wrong check sum", "90721 1 undo\n" + undo, api.ErrSum},
		{"no body", sum("1 saw") + " 1 saw\n" + undo, api.ErrSyntax},
		{"a long line", long + "\n", api.ErrLong},
		{"a long line and a wrong one", long + "\n\n", api.ErrLong},
		{"a return", strings.Replace(undo, "\n", "\r\n", 1), api.ErrSum},
	} {
		events, at, e := yard.Recover(log + row.end)
		wantAt(t, "Recover with "+row.what, events, at, e, begin, len(log), row.e)
		text, e := yard.Append(log+row.end, api.Event{})
		want(t, "Append with "+row.what, text, e, "", row.e)
		if strings.HasSuffix(row.end, "\n") {
			events, at, e = yard.Recover(row.end + log)
			wantAt(t, "Recover that begins with "+row.what, events, at, e, nil, 0, row.e)
		}
	}
	events, at, e := yard.Recover(undo + "90721 1 undo\n" + undo)
	wantAt(t, "Recover with a wrong line between right ones", events, at, e, []api.Event{event("1 undo", "")}, len(undo), api.ErrSum)
}

func TestLogsOfManyEvents(t *testing.T) {
	log := logOf(notes(1000)...)
	events, at, e := yard.Recover(log)
	wantAt(t, "Recover of 1000 events", events, at, e, notes(1000), len(log), api.OK)
	for _, row := range []struct {
		what, end string
		e         api.Errno
	}{
		{"an event", "90720 1 undo\n", api.ErrMany}, {"a torn event", "90720 1 undo", api.ErrTorn}, {"a wrong line", "x\n", api.ErrSyntax},
		{"an event and a wrong line", "90720 1 undo\nx\n", api.ErrMany}, {"a wrong check sum", "90721 1 undo\n", api.ErrSum}, {"an event and a torn one", "90720 1 undo\nx", api.ErrMany},
	} {
		events, at, e := yard.Recover(log + row.end)
		wantAt(t, "Recover of 1000 events and "+row.what, events, at, e, notes(1000), len(log), row.e)
		text, e := yard.Append(log+row.end, event("1 undo", ""))
		want(t, "Append to 1000 events and "+row.what, text, e, "", row.e)
	}
	short := logOf(notes(999)...)
	text, e := yard.Append(short, event("1000 note", "999"))
	want(t, "Append of the event 1000", text, e, log, api.OK)
	text, e = yard.Append(log, event("1 undo", ""))
	want(t, "Append of the event 1001", text, e, "", api.ErrMany)
	text, e = yard.Append(log, event("1 saw", ""))
	want(t, "Append of a wrong event to 1000", text, e, "", api.ErrKind)
}

// filled returns a log of just so many bytes, which has long notes.
func filled(bytes int) string {
	log := ""
	for i := 1; ; i++ {
		note := func(letter string, size int) string {
			return logOf(event(strconv.Itoa(i)+" note", strings.Repeat(letter, size)))
		}
		rest := bytes - len(log)
		if rest > 4000 {
			log += note("x", min(4096, rest-1000))
			continue
		}
		// Nearly all check sums have six digits.
		for letter := 'a'; letter <= 'z'; letter++ {
			if last := note(string(letter), rest-6-len("  note \n")-len(strconv.Itoa(i))); len(last) == rest {
				return log + last
			}
		}
	}
}

func TestLogsOfManyBytes(t *testing.T) {
	log := filled(api.MaxLog)
	events, at, e := yard.Recover(log)
	wantAt(t, "Recover of a million bytes", len(events), at, e, strings.Count(log, "\n"), api.MaxLog, api.OK)
	events, at, e = yard.Recover(log + "\n")
	wantAt(t, "Recover of one more", events, at, e, nil, 0, api.ErrLong)
	events, at, e = yard.Recover(strings.Repeat("x", api.MaxLog+1))
	wantAt(t, "Recover of one more without a line feed", events, at, e, nil, 0, api.ErrLong)
	text, e := yard.Append(log, event("1 undo", ""))
	want(t, "Append to a million bytes", text, e, "", api.ErrLong)
	text, e = yard.Append(log, event("1001 undo", ""))
	want(t, "Append of a wrong event to a million bytes", text, e, "", api.ErrRange)
	text, e = yard.Append(log+"\n", event("1001 undo", ""))
	want(t, "Append to one more", text, e, "", api.ErrLong)

	undo := logOf(event("1 undo", ""))
	short := filled(api.MaxLog - len(undo))
	text, e = yard.Append(short, event("1 undo", ""))
	want(t, "Append up to a million bytes", text, e, short+undo, api.OK)
	text, e = yard.Append(filled(api.MaxLog-len(undo)+1), event("1 undo", ""))
	want(t, "Append of one more", text, e, "", api.ErrLong)
}

func TestLogsThatAreCutOff(t *testing.T) {
	log := logOf(story()...)
	for length := range len(log) {
		whole := strings.Count(log[:length], "\n")
		rest := strings.LastIndex(log[:length], "\n") + 1
		wanted := api.ErrTorn
		if rest == length {
			wanted = api.OK
		}
		events, at, e := yard.Recover(log[:length])
		wantAt(t, "Recover of a log that is cut off", events, at, e, story()[:whole], rest, wanted)
	}
}

func TestLogsWithAnotherByte(t *testing.T) {
	log := logOf(story()[:2]...)
	s := newSource(1013)
	for range 3000 {
		at := s.Intn(len(log))
		letter := s.choice("0", "1", "9", " ", "\n", "\\", "x", "n", "m")
		other := log[:at] + letter + log[at+1:]
		if other == log {
			continue
		}
		// A check sum tells of every single byte.
		events, length, e := yard.Recover(other)
		before := strings.Count(log[:at], "\n")
		wanted := logOf(story()[:before]...)
		if e == api.OK || length != len(wanted) || len(events) != before {
			t.Errorf("Recover of %q: got %d events, %d bytes, error %d", other, len(events), length, e)
		}
	}
}
