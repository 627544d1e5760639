package nest

import (
	"cmp"
	"slices"

	"trunnel/api"
)

// lying is a piece that lies on a beam.
type lying struct{ beam, from, to int }

// isNear reports whether two pieces lie too near to each other.
func (p lying) isNear(q lying, kerf int) bool {
	return p.beam == q.beam && p.from < q.to+kerf && q.from < p.to+kerf
}

// CheckPlacing returns OK for a valid placing.
func CheckPlacing(beams []api.Beam, pieces []int, kerf int, l []api.Placing) api.Errno {
	if e := check(beams, pieces, kerf); e != api.OK {
		return e
	}
	if len(l) != len(pieces) {
		return api.ErrShape
	}
	var placed []lying
	for i, p := range l {
		if e := checkPlace(beams, pieces[i], p); e != api.OK {
			return e
		}
		piece := lying{p.Beam, p.At, p.At + pieces[i]}
		if slices.ContainsFunc(placed, func(q lying) bool { return piece.isNear(q, kerf) }) {
			return api.ErrClash
		}
		placed = append(placed, piece)
	}
	return api.OK
}

// checkPlace returns the error that a piece of a length has, whatever the other pieces.
func checkPlace(beams []api.Beam, length int, p api.Placing) api.Errno {
	if p.Beam < 0 || p.Beam >= len(beams) {
		return api.ErrUnknown
	}
	b := beams[p.Beam]
	// The end of the piece could be too large for a machine integer.
	if p.At < 0 || p.At > b.Length-length {
		return api.ErrRange
	}
	for gap := range gaps(b) {
		if gap[0] <= p.At && p.At+length <= gap[1] {
			return api.OK
		}
	}
	return api.ErrFace
}

// Length returns the sum of the lengths of all beams that are used.
func Length(beams []api.Beam, pieces []int, kerf int, l []api.Placing) (int, api.Errno) {
	if e := CheckPlacing(beams, pieces, kerf, l); e != api.OK {
		return 0, e
	}
	return lengthOf(beams, l), api.OK
}

// lengthOf returns the length of a valid placing.
func lengthOf(beams []api.Beam, l []api.Placing) int {
	var isUsed [api.MaxStock]bool
	for _, p := range l {
		isUsed[p.Beam] = true
	}
	total := 0
	for i, b := range beams {
		if isUsed[i] {
			total += b.Length
		}
	}
	return total
}

// Waste returns what is left of the beams that are used.
func Waste(beams []api.Beam, pieces []int, kerf int, l []api.Placing) (int, api.Errno) {
	if e := CheckPlacing(beams, pieces, kerf, l); e != api.OK {
		return 0, e
	}
	return lengthOf(beams, l) - sum(pieces), api.OK
}

// First places each piece where there is room first.
func First(beams []api.Beam, pieces []int, kerf int) ([]api.Placing, api.Errno) {
	if e := check(beams, pieces, kerf); e != api.OK {
		return nil, e
	}
	return fill(beams, pieces, kerf, numbers(pieces))
}

// Falling does the same with the longest pieces first.
func Falling(beams []api.Beam, pieces []int, kerf int) ([]api.Placing, api.Errno) {
	if e := check(beams, pieces, kerf); e != api.OK {
		return nil, e
	}
	order := numbers(pieces)
	slices.SortStableFunc(order, func(i, j int) int { return cmp.Compare(pieces[j], pieces[i]) })
	return fill(beams, pieces, kerf, order)
}

// numbers returns the numbers of pieces in ascending order.
func numbers(pieces []int) []int {
	order := make([]int, len(pieces))
	for i := range order {
		order[i] = i
	}
	return order
}

// fill places pieces in an order, each one where there is room first, or returns ErrNone.
func fill(beams []api.Beam, pieces []int, kerf int, order []int) ([]api.Placing, api.Errno) {
	l := make([]api.Placing, len(pieces))
	var placed []lying
next:
	for _, i := range order {
		for number, b := range beams {
			if at, ok := room(b, number, pieces[i], kerf, placed); ok {
				l[i] = api.Placing{Beam: number, At: at}
				placed = append(placed, lying{number, at, at + pieces[i]})
				continue next
			}
		}
		return nil, api.ErrNone
	}
	return l, api.OK
}

// room returns the first place for a piece of a length on a beam, and whether there is one.
func room(b api.Beam, number, length, kerf int, placed []lying) (int, bool) {
	for gap := range gaps(b) {
		for at := gap[0]; at+length <= gap[1]; {
			piece := lying{number, at, at + length}
			near := slices.IndexFunc(placed, func(q lying) bool { return piece.isNear(q, kerf) })
			if near < 0 {
				return at, true
			}
			// Each place up to this one is too near to the same piece.
			at = placed[near].to + kerf
		}
	}
	return 0, false
}
