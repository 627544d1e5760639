package yard

import (
	"strconv"
	"strings"

	"trunnel/api"
	"trunnel/cut"
	"trunnel/joint"
	"trunnel/raise"
	"trunnel/solid"
)

// question is a question about the timbers of a branch.
type question struct {
	words  int // behind it: the branch, and perhaps a member
	answer func(t api.Timbers, words []string) (string, api.Errno)
}

// questions returns the questions by their first words.
func questions() map[string]question {
	return map[string]question{
		"members":  {1, namesOf},
		"weight":   {1, weightOf},
		"findings": {1, findingsOf},
		"text":     {1, textOf},
		"order":    {1, orderOf},
		"volume":   {2, ofMember(volumeOf)},
		"cuts":     {2, ofMember(cutsOf)},
	}
}

// listed returns an answer with what a function says of each element of a list.
func listed[T any](list []T, say func(T) string) string { return strings.Join(mapped(list, say), " ") }

func namesOf(t api.Timbers, _ []string) (string, api.Errno) {
	return listed(t.Members, func(m api.Member) string { return m.Name }), api.OK
}

func weightOf(t api.Timbers, _ []string) (string, api.Errno) {
	weight, e := joint.Weight(t)
	return string(weight), e
}

func findingsOf(t api.Timbers, _ []string) (string, api.Errno) {
	findings, e := joint.Report(t, joint.Rules{Touch: "0", Wood: "0", Edge: "0"})
	return listed(findings, func(f joint.Finding) string { return f.Kind }), e
}

func textOf(t api.Timbers, words []string) (string, api.Errno) {
	plan, e := From(t, words[0])
	if e != api.OK {
		return "", e
	}
	text, e := Print(plan)
	return escaped(text), e
}

func orderOf(t api.Timbers, _ []string) (string, api.Errno) {
	directions := []api.Vec{{"0", "0", "-1"}, {"1", "0", "0"}, {"-1", "0", "0"}, {"0", "1", "0"}, {"0", "-1", "0"}}
	moves, e := raise.Order(t, directions, nil)
	return listed(moves, func(m api.Move) string { return m.Member + " " + strconv.Itoa(m.Direction) }), e
}

// ofMember returns an answer about the member with the name behind the branch.
func ofMember(answer func(t api.Timbers, k int) (string, api.Errno)) func(api.Timbers, []string) (string, api.Errno) {
	return func(t api.Timbers, words []string) (string, api.Errno) {
		k, e := joint.Find(t, words[1])
		if e != api.OK {
			return "", e
		}
		return answer(t, k)
	}
}

func volumeOf(t api.Timbers, k int) (string, api.Errno) {
	finished, e := joint.Finished(t, k)
	if e != api.OK {
		return "", e
	}
	volume, e := solid.Volume(finished)
	return string(volume), e
}

func cutsOf(t api.Timbers, k int) (string, api.Errno) {
	list, e := cut.Plan(t, k)
	if e != api.OK {
		return "", e
	}
	text, e := cut.Print(list)
	return escaped(text), e
}
