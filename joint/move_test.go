package joint_test

import (
	"testing"

	"trunnel/api"
	"trunnel/joint"
	"trunnel/space"
)

// P3.6

func TestMove(t *testing.T) {
	f := plain(api.Vec{"1", "2", "3"})
	f.X, f.Y, f.Z = api.Vec{"0", "2", "0"}, api.Vec{"-2", "0", "0"}, api.Vec{"0", "0", "2"}
	got, e := joint.Move(pegged(), f)
	wanted := pegged()
	wanted.Members[0].Frame = f
	wanted.Members[1].Frame = api.Frame{Origin: api.Vec{"-1", "10", "-9"}, X: api.Vec{"0", "0", "2"}, Y: api.Vec{"0", "2", "0"}, Z: api.Vec{"-2", "0", "0"}}
	want(t, "Move", got, e, wanted, api.OK)
	got, e = joint.Move(api.Timbers{}, f)
	want(t, "Move of nothing", len(got.Members)+len(got.Joints), e, 0, api.OK)
	got, e = joint.Move(pegged(), plain(origin()))
	want(t, "Move by nothing", got, e, pegged(), api.OK)
}

func TestMoveErrors(t *testing.T) {
	stretch := func(x, y, z api.Rat) api.Frame {
		f := plain(origin())
		f.X[0], f.Y[1], f.Z[2] = x, y, z
		return f
	}
	skew := plain(origin())
	skew.X[1] = "1"
	far := timbers([]api.Member{stick("a", origin(), "1", "1", "1"), stick("b", api.Vec{digits(600), "0", "0"}, "1", "1", "1"), stick("c", api.Vec{"0", digits(600), "0"}, "1", "1", "1")})
	steep := timbers([]api.Member{post()})
	steep.Members[0].Frame = api.Frame{Origin: origin(), X: api.Vec{"3", "4", "0"}, Y: api.Vec{"-4", "3", "0"}, Z: api.Vec{"0", "0", "5"}}
	turn := sure(space.Turn([4]api.Rat{"99991", "9973", "0", "99989"}))
	for _, row := range []struct {
		what string
		t    api.Timbers
		f    api.Frame
		e    api.Errno
	}{
		{"a scale", tenon(), stretch("2", "2", "2"), api.OK},
		{"a small scale", tenon(), stretch("1/3", "1/3", "1/3"), api.OK},
		{"a turn", tenon(), sure(space.Turn([4]api.Rat{"1", "2", "3", "4"})), api.OK},
		{"a longer X", tenon(), stretch("2", "1", "1"), api.ErrFrame},
		{"a longer Y", tenon(), stretch("1", "2", "1"), api.ErrFrame},
		{"a longer Z", tenon(), stretch("1", "1", "2"), api.ErrFrame},
		{"axes that are longer by a trifle", tenon(), stretch("1", "1", "1000000000000/999999999999"), api.ErrFrame},
		{"no frame", tenon(), api.Frame{}, api.ErrForm},
		{"an axis 0", tenon(), stretch("1", "1", "0"), api.ErrZero},
		{"a mirror", tenon(), stretch("1", "1", "-1"), api.ErrFrame},
		{"skew axes", tenon(), skew, api.ErrFrame},
		{"timbers ahead of the frame", joined("tenon"), api.Frame{}, api.ErrShape},
		{"axes ahead of members", far, stretch("7", "7", "1"), api.ErrFrame},
		{"a member that comes too far away", far, stretch("7", "7", "7"), api.ErrLarge},
		{"a member whose far side comes too far away", timbers([]api.Member{stick("a", origin(), digits(600), "1", "1")}), stretch("7", "7", "7"), api.ErrLarge},
		{"a turn to great normals", steep, turn, api.ErrLarge},
		{"axes with large squares", tenon(), stretch("1"+zeros(400), "1"+zeros(400), "1"+zeros(400)), api.OK},
	} {
		got, e := joint.Move(row.t, row.f)
		wantError(t, "Move by "+row.what, e, row.e)
		if e != api.OK {
			want(t, "Move by "+row.what, got, api.OK, api.Timbers{}, api.OK)
		}
	}
}

func TestMoveComposesFrames(t *testing.T) {
	s := newSource(5)
	for range 20 {
		r, f := s.timbers(3), s.similar()
		got, e := joint.Move(r, f)
		for k, m := range r.Members {
			r.Members[k].Frame = sure(space.Compose(f, m.Frame))
		}
		want(t, "Move", got, e, r, api.OK)
	}
}
