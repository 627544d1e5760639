package cut_test

import (
	"testing"

	"trunnel/api"
	"trunnel/cut"
	"trunnel/joint"
	"trunnel/space"
)

// P5.6

// turned is the result of Turn, but for its error.
type turned struct {
	m api.Member
	l []api.Cut
}

func turn(m api.Member, l []api.Cut) (turned, api.Errno) {
	m, l, e := cut.Turn(m, l)
	return turned{m, l}, e
}

func TestTurn(t *testing.T) {
	frames := []struct{ before, behind api.Member }{
		{beam(), api.Member{Name: "P", Frame: api.Frame{Origin: api.Vec{"10", "4", "0"}, X: api.Vec{"-1", "0", "0"}, Y: api.Vec{"0", "-1", "0"}, Z: api.Vec{"0", "0", "1"}}, Size: api.Vec{"10", "4", "4"}}},
		{post(), api.Member{Name: "Q", Frame: api.Frame{Origin: api.Vec{"6", "1", "2"}, X: api.Vec{"0", "0", "-1"}, Y: api.Vec{"-1", "0", "0"}, Z: api.Vec{"0", "1", "0"}}, Size: api.Vec{"8", "2", "2"}}},
		{slanting(), api.Member{Name: "S", Frame: api.Frame{Origin: api.Vec{"31", "38", "-1"}, X: api.Vec{"-3", "-4", "0"}, Y: api.Vec{"0", "0", "1/2"}, Z: api.Vec{"-4", "3", "0"}}, Size: api.Vec{"10", "3", "4"}}},
	}
	for _, row := range frames {
		got, e := turn(row.before, nil)
		want(t, "Turn of the member "+row.before.Name, got, e, turned{row.behind, nil}, api.OK)
	}
	for _, row := range []struct{ before, behind api.Cut }{
		{made("saw", "top", "1", "0", "0", "8"), made("saw", "top", "-1", "0", "0", "-2")},
		{made("saw", "bottom", "1", "2", "3", "5"), made("saw", "bottom", "-1", "-2", "3", "-13")},
		{made("saw", "top", "0", "0", "-1/2", "-1"), made("saw", "top", "0", "0", "-1/2", "-1")},
		{made("slot", "left", "2", "4", "-1", "1", "1", "3"), made("slot", "right", "6", "8", "3", "5", "1", "3")},
		{made("slot", "right", "0", "1/2", "7/2", "4", "0", "4"), made("slot", "left", "19/2", "10", "0", "1/2", "0", "4")},
		{made("bore", "start", "5", "2", "1", "-1", "9"), made("bore", "end", "5", "2", "1", "-5", "5")},
		{made("bore", "end", "1/3", "3", "1/2", "1", "2"), made("bore", "start", "29/3", "3", "1/2", "2", "3")},
		{made("pocket", "top"), made("pocket", "top")},
		{made("pocket", "bottom", "1", "0", "0", "1"), made("pocket", "bottom", "-1", "0", "0", "-9")},
		{made("pocket", "start", "1", "2", "3", "5", "-1", "1/2", "0", "0", "0", "0", "-1", "-3"), made("pocket", "end", "-1", "-2", "3", "-13", "1", "-1/2", "0", "8", "0", "0", "-1", "-3")},
	} {
		got, e := turn(beam(), []api.Cut{row.before})
		want(t, "Turn of a "+row.before.Kind, got, e, turned{frames[0].behind, []api.Cut{row.behind}}, api.OK)
		got, e = turn(beam(), []api.Cut{row.before, made("pocket", "top"), row.behind})
		want(t, "Turn of a list", got, e, turned{frames[0].behind, []api.Cut{row.behind, made("pocket", "top"), row.before}}, api.OK)
	}
}

func TestTurnTwice(t *testing.T) {
	s := newSource(7)
	for range 40 {
		m, l := s.member("M"), s.list(s.Intn(5), 6)
		once, e := turn(m, l)
		wantError(t, "Turn", e, api.OK)
		f, size := m.Frame, m.Size
		origin := sure(space.AddVec(f.Origin, sure(space.AddVec(sure(space.Scale(size[0], f.X)), sure(space.Scale(size[1], f.Y))))))
		frame := api.Frame{Origin: origin, X: sure(space.Scale("-1", f.X)), Y: sure(space.Scale("-1", f.Y)), Z: f.Z}
		want(t, "the turned member", once.m, api.OK, api.Member{Name: "M", Frame: frame, Size: size}, api.OK)
		for i, c := range l {
			wantError(t, "CheckCut of a turned cut", cut.CheckCut(once.l[i]), api.OK)
			want(t, "the region of a turned cut", sure(cut.Region(once.m, once.l[i])), api.OK, sure(cut.Region(m, c)), api.OK)
			want(t, "the opening of a turned cut", sure(cut.Opening(once.m, once.l[i])), api.OK, sure(cut.Opening(m, c)), api.OK)
		}
		back, e := turn(once.m, once.l)
		want(t, "Turn of what is turned", back, e, turned{m, l}, api.OK)
	}
}

func TestErrorsOfTurn(t *testing.T) {
	// Axes in which a corner of the blank has large numbers, though its faces have none.
	far := slanting()
	far.Frame.Y, far.Frame.Z = api.Vec{"-4", "3", "0"}, api.Vec{"0", "0", "1"}
	far.Size[0], far.Size[1] = small(), smaller()
	near := beam()
	near.Size[0], near.Size[1] = small(), small()
	flat := made("saw", "top", "0", "0", "1", "1")
	for _, row := range []struct {
		what string
		m    api.Member
		c    api.Cut
		e    api.Errno
	}{
		{"a corner far away", far, flat, api.ErrLarge},
		{"a corner", near, flat, api.OK},
		{"a saw with a large x", near, made("saw", "top", "1", "0", "0", smaller()), api.ErrLarge},
		{"a saw with a large y", near, made("saw", "top", "0", "1", "0", smaller()), api.ErrLarge},
		{"a saw with a large z", near, made("saw", "top", "0", "0", "1", smaller()), api.OK},
		{"a saw with a large direction", near, made("saw", "top", smaller(), "0", "0", "0"), api.ErrLarge},
		{"a pocket with a large x", near, made("pocket", "top", "0", "0", "1", "1", "1", "0", "0", smaller()), api.ErrLarge},
		{"a slot with a large x0", near, made("slot", "top", smaller(), "1", "0", "1", "0", "1"), api.ErrLarge},
		{"a slot with a large x1", near, made("slot", "top", "0", smaller(), "0", "1", "0", "1"), api.ErrLarge},
		{"a slot with a large y0", near, made("slot", "top", "0", "1", smaller(), "1", "0", "1"), api.ErrLarge},
		{"a slot with a large y1", near, made("slot", "top", "0", "1", "0", smaller(), "0", "1"), api.ErrLarge},
		{"a slot with a large z", near, made("slot", "top", "0", "1", "0", "1", smaller(), "1"), api.OK},
		{"a bore with a large x", near, made("bore", "top", smaller(), "1", "1", "0", "1"), api.ErrLarge},
		{"a bore with a large z", near, made("bore", "top", "0", smaller(), "1", "0", "1"), api.OK},
		{"a bore with a large y0", near, made("bore", "top", "0", "1", "1", smaller(), "1"), api.ErrLarge},
		{"a bore with a large y1", near, made("bore", "top", "0", "1", "1", "0", smaller()), api.ErrLarge},
		{"a saw with large numbers on the way", beam(), made("saw", "top", digits(600), "0", "0", digits(600)), api.ErrLarge},
		{"a saw with sums that are short", near, made("saw", "top", "1"+zeros(400), "0", "0", "1"), api.OK},
	} {
		for _, l := range [][]api.Cut{{row.c}, {flat, row.c}} {
			wantError(t, "CheckMember for "+row.what, joint.CheckMember(row.m), api.OK)
			got, e := turn(row.m, l)
			wantError(t, "Turn of "+row.what, e, row.e)
			if e != api.OK {
				want(t, "Turn of "+row.what, got, e, turned{}, e)
			}
		}
	}
}
