package statics

import (
	"cmp"
	"slices"

	"trunnel/api"
	"trunnel/space"
)

// Motions returns the reduced basis of the motions of a truss.
func Motions(t api.Truss) ([][]api.Vec, api.Errno) {
	own, e := read(t)
	if e != api.OK {
		return nil, e
	}
	return each(own.motions(), writeVectors)
}

// IsMotion reports whether vectors are a motion of a truss.
func IsMotion(t api.Truss, motion []api.Vec) (bool, api.Errno) {
	own, errTruss := read(t)
	vectors, errMotion := readVectors(motion, len(t.Nodes))
	if e := cmp.Or(errTruss, errMotion); e != api.OK {
		return false, e
	}
	return own.isMotion(vectors), api.OK
}

// Work returns the work of loads on a motion.
func Work(t api.Truss, loads, motion []api.Vec) (api.Rat, api.Errno) {
	done, e := readWork(t, loads, motion)
	if e != api.OK {
		return "", e
	}
	return done.Write()
}

// Refuse returns the first motion of Motions on which loads work.
func Refuse(t api.Truss, loads []api.Vec) ([]api.Vec, api.Errno) {
	own, vectors, e := readLoaded(t, loads)
	if e != api.OK {
		return nil, e
	}
	motions := own.motions()
	first := slices.IndexFunc(motions, func(motion []space.Vector) bool { return !work(vectors, motion).IsZero() })
	if first < 0 {
		return nil, api.ErrNone
	}
	return writeVectors(motions[first])
}

// CheckRefuse returns OK for a motion on which loads work.
func CheckRefuse(t api.Truss, loads, motion []api.Vec) api.Errno {
	done, e := readWork(t, loads, motion)
	if e == api.OK && done.IsZero() {
		return api.ErrProof
	}
	return e
}

// readWork returns the work of loads on a motion, or the first error of these arguments.
func readWork(t api.Truss, loads, motion []api.Vec) (space.Number, api.Errno) {
	own, forces, errLoaded := readLoaded(t, loads)
	ways, errMotion := readVectors(motion, len(t.Nodes))
	switch e := cmp.Or(errLoaded, errMotion); {
	case e != api.OK:
		return space.Number{}, e
	case !own.isMotion(ways):
		return space.Number{}, api.ErrState
	}
	return work(forces, ways), api.OK
}

// motions returns the reduced basis of the motions.
func (t truss) motions() [][]space.Vector {
	var motions [][]space.Vector
	for _, list := range t.reduceBars(t.bars).basis() {
		motions = append(motions, t.vectors(list))
	}
	return motions
}

func (t truss) isMotion(vectors []space.Vector) bool {
	if !t.areZero(vectors, held) {
		return false
	}
	for _, bar := range t.bars {
		if !vectors[bar.To].Minus(vectors[bar.From]).Dot(t.along(bar)).IsZero() {
			return false
		}
	}
	return true
}

// work returns the sum of the products of loads and a motion.
func work(loads, motion []space.Vector) space.Number {
	var all space.Number
	for node, load := range loads {
		all = all.Plus(load.Dot(motion[node]))
	}
	return all
}
