package statics

import (
	"iter"
	"slices"

	"trunnel/api"
	"trunnel/space"
)

// Which coordinates of vectors are meant.
const (
	held = false
	free = true
)

// truss is an api.Truss that was read.
type truss struct {
	nodes []space.Vector
	bars  []api.Bar
	// places are those of the free coordinates, each one of a node and an axis, in the list of all of them.
	places map[[2]int]int
}

// CheckTruss returns the first error of a truss, or OK.
func CheckTruss(t api.Truss) api.Errno {
	_, e := read(t)
	return e
}

// read returns a truss, or its first error.
func read(t api.Truss) (truss, api.Errno) {
	nodes, e := readNodes(t.Nodes)
	switch {
	case e != api.OK:
		return truss{}, e
	case len(t.Held) != len(t.Nodes):
		return truss{}, api.ErrShape
	}
	return truss{nodes, t.Bars, freePlaces(t.Held)}, checkBars(t.Bars, len(nodes))
}

func readNodes(nodes []api.Vec) ([]space.Vector, api.Errno) {
	switch {
	case len(nodes) == 0:
		return nil, api.ErrEmpty
	case len(nodes) > api.MaxNodes:
		return nil, api.ErrMany
	}
	points := make([]space.Vector, len(nodes))
	for i, node := range nodes {
		point, e := space.ReadVec(node)
		switch {
		case e != api.OK:
			return nil, e
		case slices.Contains(nodes[:i], node):
			return nil, api.ErrTwice
		}
		points[i] = point
	}
	return points, api.OK
}

func checkBars(bars []api.Bar, nodes int) api.Errno {
	if len(bars) > api.MaxBars {
		return api.ErrMany
	}
	for i, bar := range bars {
		switch {
		case min(bar.From, bar.To) < 0 || max(bar.From, bar.To) >= nodes:
			return api.ErrUnknown
		case bar.From >= bar.To:
			return api.ErrOrder
		case slices.Contains(bars[:i], bar):
			return api.ErrTwice
		}
	}
	return api.OK
}

func freePlaces(supports [][3]bool) map[[2]int]int {
	places := map[[2]int]int{}
	for node, axes := range supports {
		for axis, isHeld := range axes {
			if !isHeld {
				places[[2]int{node, axis}] = len(places)
			}
		}
	}
	return places
}

// along returns the vector from the first node of a bar to the second one.
func (t truss) along(bar api.Bar) space.Vector { return t.nodes[bar.To].Minus(t.nodes[bar.From]) }

// coordinates visits the coordinates of vectors for each node, each with its node and axis.
func coordinates(vectors []space.Vector) iter.Seq2[[2]int, space.Number] {
	return func(yield func([2]int, space.Number) bool) {
		for node, v := range vectors {
			for axis, x := range v {
				if !yield([2]int{node, axis}, x) {
					return
				}
			}
		}
	}
}

// list returns the free coordinates of vectors for each node.
func (t truss) list(vectors []space.Vector) []space.Number {
	numbers := make([]space.Number, len(t.places))
	for at, x := range coordinates(vectors) {
		if place, isFree := t.places[at]; isFree {
			numbers[place] = x
		}
	}
	return numbers
}

// vectors returns the vectors with these free coordinates, and 0 in all other ones.
func (t truss) vectors(numbers []space.Number) []space.Vector {
	vectors := make([]space.Vector, len(t.nodes))
	for at, place := range t.places {
		vectors[at[0]][at[1]] = numbers[place]
	}
	return vectors
}

// areZero reports whether vectors have 0 in all coordinates that are held, or in all that are free.
func (t truss) areZero(vectors []space.Vector, which bool) bool {
	for at, x := range coordinates(vectors) {
		if _, isFree := t.places[at]; isFree == which && !x.IsZero() {
			return false
		}
	}
	return true
}
