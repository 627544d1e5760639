package raise

import (
	"iter"

	"trunnel/solid"
	"trunnel/space"
)

// path is the half-spaces of all places at which a body is on its way in.
type path = []space.Half

// pathsOf are the paths of the bodies of a member: those of its blank, and those of the finished member.
type pathsOf struct {
	blank, finished []path
}

// paths returns the paths of bodies that come in along a direction. To come in is to go out backwards.
func paths(b solid.Bodies, direction space.Vector) []path { return b.Paths(direction.Negated()) }

// pairs goes through the pairs of the elements of two lists.
func pairs[A, B any](a []A, b []B) iter.Seq2[A, B] {
	return func(yield func(A, B) bool) {
		for _, x := range a {
			for _, y := range b {
				if !yield(x, y) {
					return
				}
			}
		}
	}
}

// enters reports whether something is inside of a path of one of two solids and inside of the other one. Where there are
// common interior points of solids, there are some of their bodies.
func enters(paths []path, standing solid.Bodies) bool {
	for p, body := range pairs(paths, standing) {
		if body.Enters(p) {
			return true
		}
	}
	return false
}

// findBlocks reports whether a member is blocked on its way by another one.
func (f *frame) findBlocks(w way) bool {
	coming, other := f.members[w.member].paths(w.direction), f.members[w.other]
	// Most blanks, of which the finished members are parts, do not meet.
	return enters(coming.blank, other.blank()) && enters(coming.finished, other.finished())
}

// blockers goes through the members of a stage, in ascending order, that block another member in a direction.
func (f *frame) blockers(k, direction int, s stage) iter.Seq[int] {
	return func(yield func(int) bool) {
		for other := range s.members() {
			if other != k && f.blocks(way{k, direction, other}) && !yield(other) {
				return
			}
		}
	}
}

// free goes through the directions, in ascending order, in which a member is free beside the other ones of a stage.
func (f *frame) free(k int, s stage) iter.Seq[int] {
	return func(yield func(int) bool) {
		for d := range f.count {
			if f.isFree(k, d, s) && !yield(d) {
				return
			}
		}
	}
}

// isFree reports whether a member is free in a direction beside the other ones of a stage.
func (f *frame) isFree(k, direction int, s stage) bool {
	for range f.blockers(k, direction, s) {
		return false
	}
	return true
}

// firstMove returns the first move with which a member comes in beside the other ones of a stage, and whether there is one.
func (f *frame) firstMove(k int, s stage) (move, bool) {
	for d := range f.free(k, s) {
		return move{k, d}, true
	}
	return move{}, false
}
