package nest

import (
	"cmp"
	"slices"

	"trunnel/api"
)

// sets is how many sets of pieces there are at most. The bits of the number of a set are the numbers of its pieces.
const sets = 1 << api.MaxSearch

// places are those of the pieces of a set; the other pieces have none.
type places [api.MaxSearch]api.Placing

// compare compares places of the same set lexicographically.
func (l places) compare(other places) int {
	return slices.CompareFunc(l[:], other[:], func(p, q api.Placing) int {
		return cmp.Or(cmp.Compare(p.Beam, q.Beam), cmp.Compare(p.At, q.At))
	})
}

// choice is a placing of a set of pieces, if there is one, and its length.
type choice struct {
	isThere bool
	length  int
	places  places
}

// isBetter reports whether a choice is better than another one of the same set.
func (c choice) isBetter(other choice) bool {
	if !c.isThere || !other.isThere {
		return c.isThere
	}
	return cmp.Or(cmp.Compare(c.length, other.length), c.places.compare(other.places)) < 0
}

// with returns a choice with that of another set, which is on another beam.
func (c choice) with(other choice, set int) choice {
	c.isThere = c.isThere && other.isThere
	c.length += other.length
	for i, p := range other.places {
		if set>>i&1 == 1 {
			c.places[i] = p
		}
	}
	return c
}

// Best returns the placing with the least length.
func Best(beams []api.Beam, pieces []int, kerf int) ([]api.Placing, api.Errno) {
	if e := check(beams, pieces, kerf); e != api.OK {
		return nil, e
	}
	if max(len(pieces), len(beams)) > api.MaxSearch {
		return nil, api.ErrLimit
	}
	best := [sets]choice{{isThere: true}}
	for number, b := range beams {
		best = join(best, onBeam(b, number, pieces, kerf), len(pieces))
	}
	all := best[1<<len(pieces)-1]
	if !all.isThere {
		return nil, api.ErrInfeasible
	}
	return slices.Clone(all.places[:len(pieces)]), api.OK
}

// join returns the best choices of all sets, a part of which is on a further beam.
func join(best, further [sets]choice, pieces int) [sets]choice {
	joined := best
	for set := range 1 << pieces {
		// These are the parts of a set, other than the empty one.
		for part := set; part > 0; part = (part - 1) & set {
			if c := best[set&^part].with(further[part], part); c.isBetter(joined[set]) {
				joined[set] = c
			}
		}
	}
	return joined
}

// onBeam returns the best choices of all sets on one beam alone. In these each piece lies as near as it can to the one
// ahead of it, since it could be moved there else; so it is enough to try all orders of pieces along the beam.
func onBeam(b api.Beam, number int, pieces []int, kerf int) [sets]choice {
	var best [sets]choice
	var ends [sets]int
	var try func(set, end int, l places)
	try = func(set, end int, l places) {
		c := choice{true, b.Length, l}
		switch {
		case c.isBetter(best[set]):
			best[set], ends[set] = c, end
		case end >= ends[set]:
			// All that could come behind these places comes at least as near behind better ones.
			return
		}
	next:
		for i, length := range pieces {
			if set>>i&1 == 1 {
				continue
			}
			for gap := range gaps(b) {
				at := max(gap[0], end)
				if at+length <= gap[1] {
					further := l
					further[i] = api.Placing{Beam: number, At: at}
					try(set|1<<i, at+length+kerf, further)
					continue next
				}
			}
		}
	}
	try(0, 0, places{})
	return best
}
