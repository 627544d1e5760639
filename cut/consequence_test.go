package cut_test

import (
	"slices"
	"testing"

	"trunnel/api"
	"trunnel/cut"
	"trunnel/joint"
	"trunnel/solid"
)

// P5.8

func TestPlansRebuildMembers(t *testing.T) {
	s := newSource(10)
	plans := 0
	for range 40 {
		r := s.timbers()
		for k, m := range r.Members {
			l, e := cut.Plan(r, k)
			if e == api.ErrFace { // a hole inside
				continue
			}
			wantError(t, "Plan", e, api.OK)
			rest, count, e := cut.Carry(m, l)
			want(t, "Carry of a plan", count, e, len(l), api.OK)
			finished := sure(joint.Finished(r, k))
			want(t, "what a plan leaves", sure(solid.Same(rest, finished)), api.OK, true, api.OK)
			taken := sum(volume(sure(joint.Blank(m))), minus(volume(finished)))
			want(t, "Waste of a plan", sure(cut.Waste(m, l)), api.OK, taken, api.OK)
			ok, e := cut.Rebuilds(r, k, l)
			want(t, "Rebuilds by a plan", ok, e, true, api.OK)
			if len(l) > 0 {
				plans++
			}
		}
	}
	if plans < 40 {
		t.Errorf("there were %d plans alone", plans)
	}
}

// TestPlansTakeWhatJointsTake has members with one joint.
func TestPlansTakeWhatJointsTake(t *testing.T) {
	s := newSource(11)
	for range 40 {
		r := s.timbers()
		r.Joints = r.Joints[:1]
		fromA, fromB, e := joint.Taken(r, 0)
		wantError(t, "Taken", e, api.OK)
		for k, m := range r.Members {
			l, e := cut.Plan(r, k)
			if e == api.ErrFace {
				continue
			}
			wanted := api.Rat("0")
			switch m.Name {
			case r.Joints[0].A:
				wanted = volume(fromA)
			case r.Joints[0].B:
				wanted = volume(fromB)
			}
			want(t, "Waste of a plan", sure(cut.Waste(m, l)), e, wanted, api.OK)
		}
	}
}

func TestOrdersLeaveTheSameSolid(t *testing.T) {
	s := newSource(12)
	several := 0
	for range 40 {
		m := s.member("M")
		var l []api.Cut
		for range 3 {
			l = append(l, s.opened(m))
		}
		var first api.Solid
		orders := 0
		for _, order := range permutations(len(l)) {
			rest, _, e := cut.Carry(m, ordered(l, order))
			if e != api.OK {
				continue
			}
			if orders == 0 {
				first = rest
				want(t, "Order", sure(cut.Order(m, l)), api.OK, order, api.OK)
			}
			orders++
			want(t, "what another order leaves", sure(solid.Same(rest, first)), api.OK, true, api.OK)
			want(t, "what Cuts leaves", sure(solid.Same(rest, sure(cut.Cuts(m, l)))), api.OK, true, api.OK)
		}
		if orders > 1 {
			several++
		}
	}
	if several < 5 {
		t.Errorf("%d lists had several orders", several)
	}
}

// TestOrderIsCarriedOut has lists of plans that are shuffled: some order is there.
func TestOrderIsCarriedOut(t *testing.T) {
	s := newSource(13)
	for range 25 {
		r := s.timbers()
		l, e := cut.Plan(r, 0)
		if e != api.OK {
			continue
		}
		mixed := clone(l)
		s.Shuffle(len(mixed), func(i, j int) { mixed[i], mixed[j] = mixed[j], mixed[i] })
		order, e := cut.Order(r.Members[0], mixed)
		wantError(t, "Order of a shuffled plan", e, api.OK)
		for i, k := range slices.Sorted(slices.Values(order)) {
			want(t, "the cuts of an order", k, api.OK, i, api.OK)
		}
		_, count, e := cut.Carry(r.Members[0], ordered(mixed, order))
		want(t, "Carry of a shuffled plan in its order", count, e, len(l), api.OK)
		ok, e := cut.Rebuilds(r, 0, ordered(mixed, order))
		want(t, "Rebuilds by a shuffled plan in its order", ok, e, true, api.OK)
	}
}

func TestTurnedListsLeaveTheSameSolid(t *testing.T) {
	s := newSource(14)
	for range 40 {
		m, l := s.member("M"), s.list(1+s.Intn(3), 6)
		turned, list, e := cut.Turn(m, l)
		wantError(t, "Turn", e, api.OK)
		rest := sure(cut.Cuts(m, l))
		want(t, "what a turned list leaves", sure(cut.Cuts(turned, list)), api.OK, rest, api.OK)
		want(t, "Waste of a turned list", sure(cut.Waste(turned, list)), api.OK, sure(cut.Waste(m, l)), api.OK)
		want(t, "Needs of a turned list", sure(cut.Needs(turned, list)), api.OK, sure(cut.Needs(m, l)), api.OK)
		done, e := carry(m, l)
		again, errAgain := carry(turned, list)
		want(t, "Carry of a turned list", again, errAgain, done, e)
	}
}
