package statics

import (
	"cmp"
	"iter"
	"slices"

	"trunnel/api"
	"trunnel/space"
)

// forces are Forces that were read.
type forces struct {
	bars  []space.Number
	nodes []space.Vector
}

// CheckForces returns OK for forces that are in equilibrium with loads.
func CheckForces(t api.Truss, loads []api.Vec, f Forces) api.Errno {
	own, vectors, errLoaded := readLoaded(t, loads)
	given, errForces := readForces(f, t)
	if e := cmp.Or(errLoaded, errForces); e != api.OK {
		return e
	}
	isOff := func(v space.Vector) bool { return !v.IsZero() }
	if !own.areZero(given.nodes, free) || slices.ContainsFunc(own.sums(given.bars, vectors, given.nodes), isOff) {
		return api.ErrProof
	}
	return api.OK
}

// Squares returns the squares of the forces in the bars.
func Squares(t api.Truss, f Forces) ([]api.Rat, api.Errno) {
	own, given, e := readForced(t, f)
	if e != api.OK {
		return nil, e
	}
	return writeNumbers(own.squares(given.bars))
}

// Overloaded returns the bars whose forces exceed their capacities.
func Overloaded(t api.Truss, f Forces, capacities [][2]api.Rat) ([]int, api.Errno) {
	own, given, errForced := readForced(t, f)
	limits, errCapacities := readCapacities(capacities, len(t.Bars))
	if e := cmp.Or(errForced, errCapacities); e != api.OK {
		return nil, e
	}
	var overloaded []int
	for bar, square := range own.squares(given.bars) {
		limit := limits[bar][0]
		if given.bars[bar].Sign() > 0 {
			limit = limits[bar][1]
		}
		// A bar without a force has the square 0, which exceeds no capacity.
		if square.Compare(limit) > 0 {
			overloaded = append(overloaded, bar)
		}
	}
	return overloaded, api.OK
}

// Section returns the force and the moment that the bars through a plane exert.
func Section(t api.Truss, f Forces, h api.Half) (api.Vec, api.Vec, api.Errno) {
	own, given, errForced := readForced(t, f)
	half, errHalf := space.ReadHalf(h)
	if e := cmp.Or(errForced, errHalf); e != api.OK {
		return api.Vec{}, api.Vec{}, e
	}
	isInside := func(node int) bool { return half.Excess(own.nodes[node]).Sign() <= 0 }
	var pulls, moments []space.Vector
	for bar, pull := range own.pulls(given.bars) {
		if isInside(bar.From) && !isInside(bar.To) {
			pulls = append(pulls, pull)
			moments = append(moments, own.nodes[bar.From].Cross(pull))
		}
	}
	both, e := writeVectors([]space.Vector{sum(pulls...), sum(moments...)})
	if e != api.OK {
		return api.Vec{}, api.Vec{}, e
	}
	return both[0], both[1], api.OK
}

// readForced returns a truss and forces.
func readForced(t api.Truss, f Forces) (truss, forces, api.Errno) {
	own, errTruss := read(t)
	given, errForces := readForces(f, t)
	return own, given, cmp.Or(errTruss, errForces)
}

// readForces returns the forces of a truss.
func readForces(f Forces, t api.Truss) (forces, api.Errno) {
	bars, errBars := readShape(f.Bars, len(t.Bars), space.ReadNumber)
	nodes, errNodes := readVectors(f.Nodes, len(t.Nodes))
	return forces{bars, nodes}, cmp.Or(errBars, errNodes)
}

// write returns the texts of forces, or ErrLarge.
func (f forces) write() (Forces, api.Errno) {
	bars, errBars := writeNumbers(f.bars)
	nodes, errNodes := writeVectors(f.nodes)
	if e := cmp.Or(errBars, errNodes); e != api.OK {
		return Forces{}, e
	}
	return Forces{bars, nodes}, api.OK
}

// pulls visits the forces that bars with coefficients exert on their ends: each bar as it is, with the force on its
// first end, and turned round, with the force on the other one.
func (t truss) pulls(coefficients []space.Number) iter.Seq2[api.Bar, space.Vector] {
	return func(yield func(api.Bar, space.Vector) bool) {
		for i, bar := range t.bars {
			pull := t.along(bar).Scaled(coefficients[i])
			if !yield(bar, pull) || !yield(api.Bar{From: bar.To, To: bar.From}, pull.Negated()) {
				return
			}
		}
	}
}

// sums returns for each node the sum of the forces of the bars on it, and of further vectors.
func (t truss) sums(coefficients []space.Number, further ...[]space.Vector) []space.Vector {
	there := make([][]space.Vector, len(t.nodes))
	for bar, pull := range t.pulls(coefficients) {
		there[bar.From] = append(there[bar.From], pull)
	}
	sums := make([]space.Vector, len(t.nodes))
	for node := range sums {
		for _, vectors := range further {
			there[node] = append(there[node], vectors[node])
		}
		sums[node] = sum(there[node]...)
	}
	return sums
}

// reactions returns the reactions that are in equilibrium with coefficients of bars and loads.
func (t truss) reactions(coefficients []space.Number, loads []space.Vector) []space.Vector {
	reactions := t.sums(coefficients, loads)
	for node, v := range reactions {
		reactions[node] = v.Negated()
	}
	return reactions
}

// squares returns the squares of the forces of bars with coefficients.
func (t truss) squares(coefficients []space.Number) []space.Number {
	squares := make([]space.Number, len(t.bars))
	for i, bar := range t.bars {
		squares[i] = t.along(bar).Scaled(coefficients[i]).Square()
	}
	return squares
}
