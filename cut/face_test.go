package cut_test

import (
	"testing"

	"trunnel/api"
	"trunnel/cut"
	"trunnel/space"
)

// P5.1, faces

func TestFaces(t *testing.T) {
	want(t, "Faces", cut.Faces(), api.OK, names(), api.OK)
	cut.Faces()[0] = "roof"
	want(t, "Faces behind a change of a result", cut.Faces(), api.OK, names(), api.OK)
}

func TestFace(t *testing.T) {
	for _, row := range []struct {
		m    api.Member
		face string
		h    api.Half
	}{
		{beam(), "top", half(0, 0, 1, "4")},
		{beam(), "bottom", half(0, 0, -1, "0")},
		{beam(), "left", half(0, -1, 0, "0")},
		{beam(), "right", half(0, 1, 0, "4")},
		{beam(), "start", half(-1, 0, 0, "0")},
		{beam(), "end", half(1, 0, 0, "10")},
		{post(), "top", half(0, 1, 0, "3")},
		{post(), "bottom", half(0, -1, 0, "-1")},
		{post(), "left", half(-1, 0, 0, "-4")},
		{post(), "right", half(1, 0, 0, "6")},
		{post(), "start", half(0, 0, -1, "6")},
		{post(), "end", half(0, 0, 1, "2")},
		{slanting(), "top", half(-4, 3, 0, "90")},
		{slanting(), "bottom", half(4, -3, 0, "10")},
		{slanting(), "left", half(0, 0, 1, "1/2")},
		{slanting(), "right", half(0, 0, -1, "1")},
		{slanting(), "start", half(-3, -4, 0, "5")},
		{slanting(), "end", half(3, 4, 0, "245")},
	} {
		h, e := cut.Face(row.m, row.face)
		want(t, "Face of "+row.m.Name+": "+row.face, h, e, row.h, api.OK)
	}
}

func TestFaceOfAnyMember(t *testing.T) {
	s := newSource(1)
	for range 20 {
		m := s.member("M")
		for _, face := range names() {
			r, _ := faceOf(m, face)
			h, e := cut.Face(m, face)
			want(t, "Face: "+face, h, e, sure(space.PlaceHalf(m.Frame, sure(space.MakeHalf(r.n, r.d)))), api.OK)
		}
	}
}

func TestErrorsOfFace(t *testing.T) {
	for _, face := range []string{"", "roof", "Top", "top ", " top", "tops", "to", "topbottom", "x", "0"} {
		h, e := cut.Face(beam(), face)
		want(t, "Face: "+face, h, e, api.Half{}, api.ErrUnknown)
	}
	for what, m := range wrongMembers() {
		for _, face := range []string{"top", "end", "roof"} { // the member comes ahead of the face
			h, e := cut.Face(m.Member, face)
			want(t, "Face of "+what+": "+face, h, e, api.Half{}, m.e)
		}
	}
}

// wrong is a member with an error.
type wrong struct {
	api.Member
	e api.Errno
}

func wrongMembers() map[string]wrong {
	all := map[string]wrong{}
	add := func(what string, e api.Errno, change func(m *api.Member)) {
		m := beam()
		change(&m)
		all[what] = wrong{m, e}
	}
	add("a member without a name", api.ErrName, func(m *api.Member) { m.Name = "" })
	add("a member with a wrong name", api.ErrName, func(m *api.Member) { m.Name, m.Size[0] = "a b", "0" })
	add("a member with a wrong number", api.ErrForm, func(m *api.Member) { m.Frame.Origin[0] = "1/1" })
	add("a member with a large number", api.ErrLarge, func(m *api.Member) { m.Frame.Origin[0] = digits(601) })
	add("a member without an axis", api.ErrZero, func(m *api.Member) { m.Frame.X[0] = "0" })
	add("a member with a wrong frame", api.ErrFrame, func(m *api.Member) { m.Frame.X[0] = "-1" })
	add("a member with a wrong size", api.ErrForm, func(m *api.Member) { m.Size[2] = "" })
	add("a member without a size", api.ErrRange, func(m *api.Member) { m.Size[1] = "0" })
	add("a member that is too far away", api.ErrLarge, func(m *api.Member) { m.Frame.Origin[0], m.Size[0] = small(), smaller() })
	all["nothing"] = wrong{api.Member{}, api.ErrName}
	return all
}
