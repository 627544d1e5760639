package yard

import (
	"cmp"
	"slices"
	"strconv"
	"strings"

	"trunnel/api"
)

// New returns a session without events.
func New() *Session { return &Session{} }

// Open returns the session with a log.
func Open(log string) (*Session, api.Errno) {
	events, _, e := Recover(log)
	if e != api.OK && e != api.ErrTorn {
		return nil, e
	}
	b, _, e := replay(events)
	if e != api.OK {
		return nil, e
	}
	return &Session{b, events}, api.OK
}

// Do does a line, and returns its answer.
func (s *Session) Do(line string) (string, api.Errno) {
	switch {
	case s == nil:
		return "", api.ErrState
	case len(line) > maxRecord:
		return "", api.ErrLong
	case line == "" || strings.Contains(line, "\n"):
		return "", api.ErrSyntax
	}
	next, _ := cutter(line)
	word, _ := next()
	if _, ok := eventKinds()[word]; ok {
		return s.add(line)
	}
	if q, ok := questions()[word]; ok {
		return s.answer(q, next)
	}
	return "", api.ErrKind
}

// add adds the event of a line.
func (s *Session) add(line string) (string, api.Errno) {
	e, ok := readAction(line)
	if !ok {
		return "", api.ErrSyntax
	}
	if s.count == api.MaxEvents {
		return "", api.ErrMany
	}
	e.Number = s.count + 1
	next, err := s.with(e)
	if err != api.OK {
		return "", err
	}
	// A copy of the session keeps what it has: nothing is written behind the events that both have.
	s.book, s.events = next, append(slices.Clip(s.events), e)
	return "event " + strconv.Itoa(e.Number), api.OK
}

// answer answers a question with the words behind it.
func (s *Session) answer(q question, next func() (string, bool)) (string, api.Errno) {
	words, ok := take(next, q.words)
	if _, isMore := next(); !ok || isMore {
		return "", api.ErrSyntax
	}
	if !areNames(words) {
		return "", api.ErrName
	}
	version := s.find(words[0])
	if version == 0 {
		return "", api.ErrUnknown
	}
	answer, e := q.answer(s.timbers(version), words)
	if e != api.OK {
		return "", e
	}
	return cmp.Or(answer, "none"), api.OK
}

// Events returns the events.
func (s *Session) Events() []api.Event {
	if s == nil {
		return nil
	}
	return mapped(s.events, func(e api.Event) api.Event {
		e.Names = slices.Clone(e.Names)
		return e
	})
}

// Log returns the log of the events.
func (s *Session) Log() string {
	var log strings.Builder
	for _, e := range s.Events() {
		text, _ := Encode(e)
		log.WriteString(text + "\n")
	}
	return log.String()
}
