package raise

import "slices"

// takeDown takes members away, always the greatest one that is free beside the others that are left. It returns the moves
// with which they come in again, and the members that cannot be taken away: none of a circle ever can, since the others
// of it are still there.
func (f *frame) takeDown() (order []move, circle stage) {
	left := f.all()
next:
	for left != (stage{}) {
		for _, k := range slices.Backward(left.list()) {
			if m, isFree := f.firstMove(k, left); isFree {
				order, left = append(order, m), left.without(k)
				continue next
			}
		}
		break
	}
	slices.Reverse(order)
	return order, left
}

// isBlocked reports whether there is no order in which each member is free beside those before it.
func (f *frame) isBlocked() bool {
	_, circle := f.takeDown()
	return circle != (stage{})
}

// isCircle reports whether no member of a set is free in a direction beside the others.
func (f *frame) isCircle(s stage) bool {
	for k := range s.members() {
		if _, isFree := f.firstMove(k, s); isFree {
			return false
		}
	}
	return true
}
