package joint_test

import (
	"testing"

	"trunnel/api"
	"trunnel/joint"
	"trunnel/solid"
	"trunnel/space"
)

// P3.7

func sum(numbers ...api.Rat) api.Rat {
	sum := api.Rat("0")
	for _, x := range numbers {
		sum = sure(space.Add(sum, x))
	}
	return sum
}

func TestJointsTakeTheOverlapApart(t *testing.T) {
	s := newSource(6)
	for range 40 {
		r := s.timbers(2)
		r.Joints = r.Joints[:1]
		a, b := sure(joint.Blank(r.Members[0])), sure(joint.Blank(r.Members[1]))
		fromA, fromB, e := joint.Taken(r, 0)
		wantError(t, "Taken", e, api.OK)
		want(t, "what is taken from A and from B", sure(solid.And(fromA, fromB)), api.OK, nil, api.OK)
		overlap := volume(sure(solid.And(a, b)))
		want(t, "the volumes taken", sum(volume(fromA), volume(fromB)), api.OK, overlap, api.OK)
		finishedA, finishedB := sure(joint.Finished(r, 0)), sure(joint.Finished(r, 1))
		want(t, "the overlap of finished members", sure(solid.And(finishedA, finishedB)), api.OK, nil, api.OK)
		both := sure(space.Sub(sum(volume(a), volume(b)), overlap))
		want(t, "the volume of both", sum(volume(finishedA), volume(finishedB)), api.OK, both, api.OK)
		want(t, "Weight of both", sure(joint.Weight(r)), api.OK, both, api.OK)
	}
}

func TestAcceptedTimbersOverlapNowhere(t *testing.T) {
	s := newSource(7)
	accepted := 0
	for range 40 {
		r := s.timbers(3)
		ok, e := joint.Accepts(r, rules("0", "0", "0"))
		wantError(t, "Accepts", e, api.OK)
		if !ok {
			continue
		}
		accepted++
		var all api.Solid
		for k := range r.Members {
			all = append(all, sure(joint.Finished(r, k))...)
		}
		for i, j := range r.Joints {
			if j.Kind == "peg" {
				all = append(all, sure(joint.Peg(r, i))...)
			}
		}
		if len(all) <= api.MaxBodies {
			wantError(t, "CheckSolid of all members and pegs", solid.CheckSolid(all), api.OK)
		}
		want(t, "Weight", sure(joint.Weight(r)), api.OK, volume(all), api.OK)
	}
	if accepted == 0 {
		t.Error("no timbers were accepted")
	}
}

// similar returns a frame with axes of the same length, from 1 to 3.
func (s source) similar() api.Frame {
	f, c := s.turned(), integer(1+s.Intn(3))
	f.X, f.Y, f.Z = sure(space.Scale(c, f.X)), sure(space.Scale(c, f.Y)), sure(space.Scale(c, f.Z))
	return f
}

// power returns a power of a number.
func power(x api.Rat, n int) api.Rat {
	p := api.Rat("1")
	for range n {
		p = sure(space.Mul(p, x))
	}
	return p
}

func TestMovedReports(t *testing.T) {
	s := newSource(8)
	for range 12 {
		r, f := s.timbers(3), s.similar()
		moved := sure(joint.Move(r, f))
		square := sure(space.Square(f.X))
		length := map[api.Rat]api.Rat{"1": "1", "4": "2", "9": "3"}[square]
		volume := power(length, 3)
		want(t, "Weight of moved timbers", sure(joint.Weight(moved)), api.OK, sure(space.Mul(volume, sure(joint.Weight(r)))), api.OK)
		limits, area := rules("2", "3/4", "3"), power(square, 2)
		wanted := sure(joint.Report(r, limits))
		for i, finding := range wanted {
			factor := map[string]api.Rat{"clash": volume, "peg": volume, "pegs": volume, "gap": area, "wood": "1", "edge": "1"}[finding.Kind]
			wanted[i].Value = sure(space.Mul(factor, finding.Value))
		}
		limits.Touch = sure(space.Mul(area, limits.Touch))
		wantReport(t, "moved timbers", moved, limits, wanted...)
		for k := range r.Members {
			at, least, e := joint.Weakest(r, k)
			movedAt, movedLeast, movedE := joint.Weakest(moved, k)
			want(t, "Weakest of a moved member", [2]api.Rat{movedAt, movedLeast}, movedE, [2]api.Rat{at, least}, e)
		}
	}
}
