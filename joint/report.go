package joint

import (
	"cmp"
	"iter"

	"trunnel/api"
	"trunnel/solid"
	"trunnel/space"
)

// Rules say what a frame has to fulfil.
type Rules struct {
	Touch api.Rat
	Wood  api.Rat
	Edge  api.Rat
}

// Finding is something that is wrong with a frame.
type Finding struct {
	Kind  string
	A     int
	B     int
	Joint int
	Value api.Rat
}

// rules are Rules without errors.
type rules struct {
	touch, wood, edge space.Number
}

// readRules returns rules, and their first error.
func readRules(r Rules) (rules, api.Errno) {
	var numbers [3]space.Number
	for i, text := range [3]api.Rat{r.Touch, r.Wood, r.Edge} {
		x, e := space.ReadNumber(text)
		if e != api.OK {
			return rules{}, e
		}
		if x.Sign() < 0 {
			return rules{}, api.ErrRange
		}
		numbers[i] = x
	}
	return rules{numbers[0], numbers[1], numbers[2]}, api.OK
}

// inspection is what a report looks at.
type inspection struct {
	timbers       timbers
	least         rules
	members, pegs []piece
	touches       []space.Number // of each joint
}

// inspect returns an inspection, and the errors of Report ahead of those of pairs.
func inspect(t api.Timbers, r Rules) (inspection, api.Errno) {
	read, errT := readTimbers(t)
	least, errR := readRules(r)
	if e := cmp.Or(errT, errR); e != api.OK {
		return inspection{}, e
	}
	members, pegs, e := read.all()
	if e != api.OK {
		return inspection{}, e
	}
	touches, e := read.greatestTouches(members)
	if e != api.OK {
		return inspection{}, e
	}
	s := inspection{timbers: read, least: least, touches: touches}
	for k, finished := range members {
		s.members = append(s.members, read.piece(k, finished))
	}
	for _, peg := range pegs {
		b := bodies(peg)
		s.pegs = append(s.pegs, piece{b, b})
	}
	return s, api.OK
}

// greatestTouches returns for each joint the greatest squared length of an area vector of its contacts (0 without contacts,
// and for pegs), and the first error of contacts.
func (t timbers) greatestTouches(finished []api.Solid) ([]space.Number, api.Errno) {
	touches := make([]space.Number, len(t.joints))
	for i, j := range t.joints {
		if j.isPeg {
			continue
		}
		contacts, e := solid.Contacts(finished[j.sides[0]], finished[j.sides[1]])
		if e != api.OK {
			return nil, e
		}
		for _, c := range contacts {
			if square := vector(c.Area).Square(); square.Compare(touches[i]) > 0 {
				touches[i] = square
			}
		}
	}
	return touches, api.OK
}

// finding is a Finding, whose value may have any size.
type finding struct {
	Finding
	value space.Number
}

// about returns a Finding without a value.
func about(kind string, a, b, joint int) Finding {
	return Finding{Kind: kind, A: a, B: b, Joint: joint}
}

// pair is two pieces that must not overlap, and what is found if they do.
type pair struct {
	Finding
	a, b piece
}

// twos goes through the pairs of the numbers below n, with the lesser one in front.
func twos(n int) iter.Seq2[int, int] {
	return func(yield func(int, int) bool) {
		for j := range n {
			for k := j + 1; k < n; k++ {
				if !yield(j, k) {
					return
				}
			}
		}
	}
}

// pairs goes through all pairs of members and pegs that must not overlap, in the order of the report.
func (s inspection) pairs() iter.Seq[pair] {
	numbers := s.timbers.pegNumbers()
	return func(yield func(pair) bool) {
		for j, k := range twos(len(s.members)) {
			if !yield(pair{about("clash", j, k, -1), s.members[j], s.members[k]}) {
				return
			}
		}
		for i, peg := range s.pegs {
			for k, m := range s.members {
				if !yield(pair{about("peg", k, -1, numbers[i]), peg, m}) {
					return
				}
			}
		}
		for i, j := range twos(len(s.pegs)) {
			if !yield(pair{about("pegs", numbers[i], numbers[j], -1), s.pegs[i], s.pegs[j]}) {
				return
			}
		}
	}
}

// overlap returns the volume of And of two pieces, and the error of And.
func (p pair) overlap() (space.Number, api.Errno) {
	// Most blanks are apart, and so is what is left of them.
	if len(p.a.blank.And(p.b.blank)) == 0 {
		return space.Number{}, api.OK
	}
	both := p.a.finished.And(p.b.finished)
	_, e := both.Write()
	return both.Volume(), e
}

// findings returns what is found, and the first error of a pair.
func (s inspection) findings() ([]finding, api.Errno) {
	var found []finding
	add := func(f Finding, value space.Number) { found = append(found, finding{f, value}) }
	for p := range s.pairs() {
		volume, e := p.overlap()
		if e != api.OK {
			return nil, e
		}
		if volume.Sign() > 0 {
			add(p.Finding, volume)
		}
	}
	for i, touch := range s.touches {
		if !s.timbers.joints[i].isPeg && (touch.IsZero() || touch.Compare(s.least.touch) < 0) {
			add(about("gap", -1, -1, i), touch)
		}
	}
	for k, p := range s.members {
		if _, share := s.timbers.weakest(k, p); len(p.finished) == 0 || share.Compare(s.least.wood) < 0 {
			add(about("wood", k, -1, -1), share)
		}
	}
	for _, i := range s.timbers.pegNumbers() {
		if edges := s.timbers.edges(s.timbers.joints[i]); edges.Compare(s.least.edge) < 0 {
			add(about("edge", -1, -1, i), edges)
		}
	}
	return found, api.OK
}

// findAll returns the findings of any size for timbers, and the error of Accepts.
func findAll(t api.Timbers, r Rules) ([]finding, api.Errno) {
	s, e := inspect(t, r)
	if e != api.OK {
		return nil, e
	}
	return s.findings()
}

// Report returns what is wrong with a frame.
func Report(t api.Timbers, r Rules) ([]Finding, api.Errno) {
	found, e := findAll(t, r)
	if e != api.OK {
		return nil, e
	}
	findings := make([]Finding, len(found))
	for i, f := range found {
		findings[i] = f.Finding
		if findings[i].Value, e = f.value.Write(); e != api.OK {
			return nil, e
		}
	}
	return findings, api.OK
}

// Accepts reports whether nothing is wrong with a frame.
func Accepts(t api.Timbers, r Rules) (bool, api.Errno) {
	found, e := findAll(t, r)
	return e == api.OK && len(found) == 0, e
}
