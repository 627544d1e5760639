package cut_test

import (
	"slices"
	"strconv"
	"testing"

	"trunnel/api"
	"trunnel/cut"
	"trunnel/joint"
	"trunnel/solid"
	"trunnel/space"
)

// P5.4

func TestPlans(t *testing.T) {
	mortise := made("pocket", "bottom", "-1", "0", "0", "-9/2", "0", "-1", "0", "-1", "0", "0", "1", "2", "0", "1", "0", "3", "1", "0", "0", "11/2")
	// One through the beam from its bottom to its top, and one through both of these from left to right.
	upright, across := stick("C", api.Vec{"2", "1", "-1"}, "1", "2", "6"), stick("D", api.Vec{"2", "-1", "1"}, "1", "6", "2")
	cross := timbers([]api.Member{beam(), upright, across}, tie("birdsmouth", "P", "C"), tie("housing", "D", "C"), tie("housing", "D", "P"))
	corner := func(at, size api.Vec) api.Timbers {
		return timbers([]api.Member{beam(), stick("C", at, size[:]...)}, tie("housing", "C", "P"))
	}
	for _, row := range []struct {
		what string
		t    api.Timbers
		k    int
		l    []api.Cut
	}{
		{"no joints", joined(), 0, nil},
		{"no joints of the second one", joined(), 1, nil},
		{"a mortise", tenon(), 0, []api.Cut{mortise}},
		// In the frame of Q x is z of space, y is x - 4, and z is y - 1: the half-spaces ascend by their N in space.
		{"a tenon", tenon(), 1, []api.Cut{
			made("pocket", "top", "-1", "0", "0", "-6", "0", "1", "0", "1/2"),
			made("pocket", "top", "0", "-1", "0", "-3/2", "-1", "0", "0", "-6"),
		}},
		{"a housing of B", joined(tie("housing", "Q", "P")), 0, []api.Cut{made("pocket", "bottom", "-1", "0", "0", "-4", "0", "-1", "0", "-1", "0", "0", "1", "2", "0", "1", "0", "3", "1", "0", "0", "6")}},
		{"a housing of A", joined(tie("housing", "Q", "P")), 1, nil},
		{"a birdsmouth of B", joined(tie("birdsmouth", "Q", "P")), 0, nil},
		{"a birdsmouth of A", joined(tie("birdsmouth", "Q", "P")), 1, []api.Cut{made("saw", "top", "1", "0", "0", "6")}},
		{"a scarf", joined(tie("scarf", "Q", "P", "1/2", "7")), 1, []api.Cut{made("saw", "top", "2", "0", "1", "14")}},
		{"two joints, the second one of which finds nothing", joined(tie("birdsmouth", "Q", "P"), tie("birdsmouth", "Q", "P")), 1, []api.Cut{made("saw", "top", "1", "0", "0", "6")}},
		{"two joints, the second one of which finds a part", joined(tie("lap", "Q", "P", "1", "1"), tie("birdsmouth", "Q", "P")), 1, []api.Cut{
			made("pocket", "top", "0", "0", "-1", "-1", "-1", "0", "0", "-6"),
			made("pocket", "bottom", "-1", "0", "0", "-6", "0", "0", "1", "1"),
		}},
		{"joints that cross", cross, 0, []api.Cut{
			made("pocket", "top", "-1", "0", "0", "-2", "0", "-1", "0", "-1", "0", "1", "0", "3", "1", "0", "0", "3"),
			made("pocket", "left", "-1", "0", "0", "-2", "0", "0", "-1", "-1", "0", "0", "1", "3", "0", "1", "0", "1", "1", "0", "0", "3"),
			made("pocket", "right", "-1", "0", "0", "-2", "0", "-1", "0", "-3", "0", "0", "-1", "-1", "0", "0", "1", "3", "1", "0", "0", "3"),
		}},
		{"joints that cross, of the upright one", cross, 1, []api.Cut{made("pocket", "left", "0", "0", "-1", "-2", "0", "0", "1", "4")}},
		{"all", corner(api.Vec{"-1", "-1", "-1"}, api.Vec{"20", "20", "20"}), 0, []api.Cut{made("pocket", "top")}},
		{"the start", corner(api.Vec{"-1", "-1", "-1"}, api.Vec{"3", "20", "20"}), 0, []api.Cut{made("saw", "top", "-1", "0", "0", "-2")}},
		{"the end", corner(api.Vec{"8", "-1", "-1"}, api.Vec{"3", "20", "20"}), 0, []api.Cut{made("saw", "top", "1", "0", "0", "8")}},
		{"the bottom", corner(api.Vec{"-1", "-1", "-1"}, api.Vec{"20", "20", "2"}), 0, []api.Cut{made("saw", "bottom", "0", "0", "-1", "-1")}},
		{"a hole on left", corner(api.Vec{"2", "-1", "1"}, api.Vec{"1", "2", "1"}), 0, []api.Cut{made("pocket", "left", "-1", "0", "0", "-2", "0", "0", "-1", "-1", "0", "0", "1", "2", "0", "1", "0", "1", "1", "0", "0", "3")}},
		{"a hole on right and end", corner(api.Vec{"9", "3", "1"}, api.Vec{"2", "2", "1"}), 0, []api.Cut{made("pocket", "right", "-1", "0", "0", "-9", "0", "-1", "0", "-3", "0", "0", "-1", "-1", "0", "0", "1", "2")}},
		{"a hole on start", corner(api.Vec{"-1", "1", "1"}, api.Vec{"2", "1", "1"}), 0, []api.Cut{made("pocket", "start", "0", "-1", "0", "-1", "0", "0", "-1", "-1", "0", "0", "1", "2", "0", "1", "0", "2", "1", "0", "0", "1")}},
		{"a hole on end", corner(api.Vec{"9", "1", "1"}, api.Vec{"2", "1", "1"}), 0, []api.Cut{made("pocket", "end", "-1", "0", "0", "-9", "0", "-1", "0", "-1", "0", "0", "-1", "-1", "0", "0", "1", "2", "0", "1", "0", "2")}},
		{"a hole on start and bottom", corner(api.Vec{"-1", "1", "-1"}, api.Vec{"2", "1", "2"}), 0, []api.Cut{made("pocket", "bottom", "0", "-1", "0", "-1", "0", "0", "1", "1", "0", "1", "0", "2", "1", "0", "0", "1")}},
		{"a peg", joined(tie("peg", "P", "Q", "2", "1", "1/2", "-1", "5")), 0, []api.Cut{made("pocket", "left", slices.Concat(
			[]api.Rat{"-1", "0", "-1", "-9/4", "-1", "0", "0", "-3/2", "-1", "0", "1", "-1/4"},
			[]api.Rat{"0", "0", "-1", "-1/2", "0", "0", "1", "3/2"},
			[]api.Rat{"1", "0", "-1", "7/4", "1", "0", "0", "5/2", "1", "0", "1", "15/4"})...)}},
		{"a peg beside B", joined(tie("peg", "P", "Q", "2", "1", "1/2", "-1", "5")), 1, nil},
	} {
		l, e := cut.Plan(row.t, row.k)
		want(t, "Plan of "+row.what, l, e, row.l, api.OK)
		want(t, "the list of "+row.what, planOf(row.t, row.k), api.OK, row.l, api.OK)
		ok, e := cut.Rebuilds(row.t, row.k, l)
		want(t, "Rebuilds of "+row.what, ok, e, true, api.OK)
	}
}

// TestPlansInStretchedFrames has numbers that are multiples of axes.
func TestPlansInStretchedFrames(t *testing.T) {
	m := slanting()
	m.Name = "A"
	other := m
	other.Name, other.Size = "B", api.Vec{"3", "9", "9"}
	other.Frame.Origin = sure(space.Place(m.Frame, api.Vec{"2", "1", "-1"}))
	r := timbers([]api.Member{m, other}, tie("housing", "B", "A"))
	// The N of space are 4 -3 0, 0 0 -1, 3 4 0, whose products with the axes are -25, 1/2 and 25.
	wanted := []api.Cut{made("pocket", "top", "-25", "0", "0", "-50", "0", "-1/2", "0", "-1/2", "25", "0", "0", "125")}
	l, e := cut.Plan(r, 0)
	want(t, "Plan in a stretched frame", l, e, wanted, api.OK)
	want(t, "the list in a stretched frame", planOf(r, 0), api.OK, wanted, api.OK)
}

func TestPlansOfAnyTimbers(t *testing.T) {
	s := newSource(5)
	kinds := map[string]int{}
	for range 60 {
		r := s.timbers()
		for k := range r.Members {
			l, e := cut.Plan(r, k)
			if e == api.ErrFace { // a hole inside
				continue
			}
			want(t, "Plan", l, e, planOf(r, k), api.OK)
			ok, e := cut.Rebuilds(r, k, l)
			want(t, "Rebuilds", ok, e, true, api.OK)
			for _, c := range l {
				kinds[c.Kind]++
			}
		}
	}
	if kinds["saw"] == 0 || kinds["pocket"] == 0 {
		t.Errorf("the plans had the cuts %v", kinds)
	}
}

// plates returns a beam with so many thin plates across, each of which cuts it through.
func plates(n int) api.Timbers {
	r := timbers([]api.Member{stick("beam", origin(), "200", "1", "1")})
	for i := range n {
		plate := stick("p"+strconv.Itoa(i), api.Vec{integer(2*i + 1), "-1", "-1"}, "1", "3", "3")
		r.Members = append(r.Members, plate)
		r.Joints = append(r.Joints, tie("birdsmouth", "beam", plate.Name))
	}
	return r
}

// drilled returns a beam in which boxes are housed: their places are from some points to others.
func drilled(boxes ...api.Body) api.Timbers {
	r := timbers([]api.Member{beam()})
	for i, b := range boxes {
		at := api.Vec{minus(b[0].D), minus(b[1].D), minus(b[2].D)}
		size := sure(space.SubVec(api.Vec{b[5].D, b[4].D, b[3].D}, at))
		name := "b" + strconv.Itoa(i)
		r.Members = append(r.Members, stick(name, at, size[:]...))
		r.Joints = append(r.Joints, tie("housing", name, "P"))
	}
	return r
}

// cornered returns timbers in which so many scarfs take slices from an edge of P: a facet more for each of them.
func cornered(n int) api.Timbers {
	r := timbers([]api.Member{beam(), stick("great", api.Vec{"0", "-1", "0"}, "12", "6", "12")})
	for i := range n {
		// A scarf is x + k z <= d, and P keeps what the great one does not: x / slope times the numbers of the bevel.
		b := bevel(i)
		r.Joints = append(r.Joints, tie("scarf", "P", "great", sure(space.Div("1", b[0])), sure(space.Div(b[3], b[0]))))
	}
	return r
}

func TestErrorsOfPlans(t *testing.T) {
	hole := block("2", "1", "1", "3", "2", "2")
	pit := block("5", "1", "1", "6", "2", "5")
	steep := joined(tie("scarf", "Q", "P", "1000000000", "1"))
	notched := plates(63)
	notched.Members[63].Size[1] = "3/2" // it leaves half of the beam
	late := plates(33)
	late.Members = append(late.Members, stick("hole", api.Vec{"100", "1/4", "1/4"}, "1/2", "1/2", "1/2"))
	late.Joints = append(late.Joints, tie("housing", "hole", "beam"))
	far := drilled(pit)
	far.Members[0].Frame.Origin[0], far.Members[1].Frame.Origin[0] = small(), smaller()
	farHole := drilled(hole)
	farHole.Members[0].Frame.Origin[0], farHole.Members[1].Frame.Origin[0] = small(), sum("2", smaller())
	both, back := drilled(hole, pit), drilled(pit, hole)
	for _, r := range []api.Timbers{both, back} {
		r.Members[0].Frame.Origin[0] = small()
		for i := range r.Members {
			if r.Members[i].Size[2] == "4" && i > 0 { // the pit
				r.Members[i].Frame.Origin[0] = sum("5", smaller())
			}
		}
	}
	for _, row := range []struct {
		what     string
		t        api.Timbers
		cuts     int
		finished api.Errno
		plan     api.Errno
	}{
		{"32 plates", plates(32), 32, api.OK, api.OK},
		{"33 plates", plates(33), 0, api.OK, api.ErrMany},
		{"33 plates and a hole", late, 0, api.OK, api.ErrFace},
		{"63 plates", plates(63), 0, api.OK, api.ErrMany},
		{"62 plates and a notch", notched, 0, api.ErrMany, api.ErrMany},
		{"a hole", drilled(hole), 0, api.OK, api.ErrFace},
		{"a pit", drilled(pit), 1, api.OK, api.OK},
		{"a pit and a hole", drilled(pit, hole), 0, api.OK, api.ErrFace},
		{"a pit that reaches the hole, and the hole", drilled(block("2", "1", "1", "5/2", "2", "5"), hole), 0, api.OK, api.ErrFace},
		{"a pit above the hole, and all of it", drilled(block("2", "1", "2", "3", "2", "5"), block("2", "1", "1", "3", "2", "5")), 0, api.OK, api.ErrFace},
		{"a pit with large numbers", far, 0, api.OK, api.ErrLarge},
		{"a hole with large numbers", farHole, 0, api.OK, api.ErrLarge},
		{"a hole ahead of large numbers", both, 0, api.OK, api.ErrFace},
		{"large numbers ahead of a hole", back, 0, api.OK, api.ErrLarge},
		{"a steep scarf", steep, 0, api.ErrLarge, api.ErrLarge},
		{"26 slices", cornered(26), 26, api.OK, api.OK},
		{"27 slices", cornered(27), 0, api.ErrMany, api.ErrMany},
	} {
		_, e := joint.Finished(row.t, 0)
		wantError(t, "Finished with "+row.what, e, row.finished)
		l, e := cut.Plan(row.t, 0)
		want(t, "Plan of "+row.what, len(l), e, row.cuts, row.plan)
		ok, e := cut.Rebuilds(row.t, 0, l)
		want(t, "Rebuilds with "+row.what, ok, e, row.plan == api.OK, row.finished)
	}
}

// TestErrorsOfAndInPlans has a joint that takes all of P but for an edge: what it takes has more facets than a body may
// have, and what it leaves does not.
func TestErrorsOfAndInPlans(t *testing.T) {
	most := api.Member{
		Name:  "most",
		Frame: api.Frame{Origin: api.Vec{"20", "-1", "20"}, X: api.Vec{"-1", "0", "0"}, Y: api.Vec{"0", "1", "0"}, Z: api.Vec{"0", "0", "-1"}},
		Size:  api.Vec{"30", "6", "30"},
	}
	for _, row := range []struct {
		slices, cuts int
		e            api.Errno
	}{{25, 26, api.OK}, {26, 0, api.ErrMany}} {
		r := cornered(row.slices)
		r.Members = append(r.Members, most)
		r.Joints = append(r.Joints, tie("scarf", "most", "P", "1", "39"))
		finished, e := joint.Finished(r, 0)
		want(t, "the volume of a finished edge", volume(finished), e, "2", api.OK)
		l, e := cut.Plan(r, 0)
		want(t, "Plan of an edge", len(l), e, row.cuts, row.e)
	}
}

func TestRebuilds(t *testing.T) {
	l := sure(cut.Plan(tenon(), 1))
	wide, crossing, _ := slots()
	smaller := clone(l)
	smaller[0].Numbers[3] = "-13/2"
	deeper := clone(l)
	deeper[0].Numbers[7] = "1/4"
	for _, row := range []struct {
		what string
		t    api.Timbers
		k    int
		l    []api.Cut
		ok   bool
	}{
		{"its plan", tenon(), 1, l, true},
		{"its plan the other way round", tenon(), 1, []api.Cut{l[1], l[0]}, true},
		{"its plan on another face", tenon(), 1, []api.Cut{l[0], made("pocket", "end", l[1].Numbers...)}, true},
		{"its plan on a wrong face", tenon(), 1, []api.Cut{l[0], made("pocket", "start", l[1].Numbers...)}, false},
		{"other cuts for the same", tenon(), 1, []api.Cut{made("slot", "end", "6", "9", "-1", "1/2", "0", "2"), made("slot", "top", "6", "8", "3/2", "2", "0", "2")}, true},
		{"the plan of another member", tenon(), 0, l, false},
		{"nothing", tenon(), 1, nil, false},
		{"a part of its plan", tenon(), 1, l[:1], false},
		{"the other part of its plan", tenon(), 1, l[1:], false},
		{"a plan that takes less", tenon(), 1, smaller, false},
		{"a plan that takes a part less", tenon(), 1, deeper, false},
		{"a plan that takes more", tenon(), 1, append(clone(l), made("saw", "left", "-1", "0", "0", "-1")), false},
		{"a plan and a cut that cannot be carried out", tenon(), 1, append(clone(l), l[0]), false},
		{"a plan of the same volume", tenon(), 1, []api.Cut{made("saw", "left", "1", "0", "0", "7")}, false},
		{"nothing without joints", joined(), 0, nil, true},
		{"cuts without joints", joined(), 0, []api.Cut{wide}, false},
		{"a cut of nothing without joints", joined(), 0, []api.Cut{made("saw", "left", "1", "0", "0", "70")}, false},
		{"cuts that cannot be carried out", joined(), 0, []api.Cut{wide, crossing}, false},
	} {
		ok, e := cut.Rebuilds(row.t, row.k, row.l)
		want(t, "Rebuilds by "+row.what, ok, e, row.ok, api.OK)
	}
	whole := sure(solid.Volume(sure(joint.Finished(tenon(), 1))))
	want(t, "the volume of Q", whole, api.OK, "28", api.OK)
}

func TestErrorsOfRebuilds(t *testing.T) {
	wide, crossing, _ := slots()
	wrong := made("saw", "top", "1000000000", "1", "0", "1")
	steep := joined(tie("scarf", "Q", "P", "1000000000", "1"))
	thin := timbers([]api.Member{stick("thin", origin(), "10", small(), small())})
	for _, row := range []struct {
		what string
		t    api.Timbers
		l    []api.Cut
		e    api.Errno
	}{
		{"a list with an error", tenon(), []api.Cut{made("saw", "roof")}, api.ErrUnknown},
		{"33 cuts", tenon(), slices.Repeat([]api.Cut{wide}, 33), api.ErrMany},
		{"a list with an error, and a joint with one", steep, []api.Cut{made("saw", "roof")}, api.ErrUnknown},
		{"a joint with an error", steep, []api.Cut{wide}, api.ErrLarge},
		{"a joint with an error, and cuts that cannot be carried out", steep, []api.Cut{wide, crossing}, api.ErrLarge},
		{"a region with an error", tenon(), []api.Cut{wrong}, api.ErrLarge},
		{"a region with an error behind cuts that cannot be carried out", tenon(), []api.Cut{wide, crossing, wrong}, api.ErrLarge},
		{"a pocket with 33 facets", tenon(), []api.Cut{made("pocket", "bottom", bevels(27)...)}, api.ErrMany},
		{"an opening with an error", thin, []api.Cut{made("saw", "end", "1", "0", "0", "8")}, api.ErrLarge},
		{"65 bodies", tenon(), trenches(4, 15), api.ErrMany},
		{"64 bodies", tenon(), trenches(3, 15), api.OK},
	} {
		ok, e := cut.Rebuilds(row.t, 0, row.l)
		want(t, "Rebuilds with "+row.what, ok, e, false, row.e)
	}
}
