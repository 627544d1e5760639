package yard

import (
	"strings"

	"trunnel/api"
)

// Append returns a log with a further event.
func Append(log string, e api.Event) (string, api.Errno) {
	events, _, err := Recover(log)
	if err != api.OK {
		return "", err
	}
	text, err := Encode(e)
	switch {
	case err != api.OK:
		return "", err
	case len(events) == api.MaxEvents:
		return "", api.ErrMany
	case len(log)+len(text)+1 > api.MaxLog:
		return "", api.ErrLong
	}
	return log + text + "\n", api.OK
}

// Recover returns the events of the longest beginning that is a log.
func Recover(log string) ([]api.Event, int, api.Errno) {
	if len(log) > api.MaxLog {
		return nil, 0, api.ErrLong
	}
	var events []api.Event
	length := 0
	for line := range strings.Lines(log) {
		text, isEnded := strings.CutSuffix(line, "\n")
		if !isEnded {
			return events, length, api.ErrTorn
		}
		e, err := Decode(text)
		if err != api.OK {
			return events, length, err
		}
		if len(events) == api.MaxEvents {
			return events, length, api.ErrMany
		}
		events = append(events, e)
		length += len(line)
	}
	return events, length, api.OK
}
