package statics_test

import (
	"math/big"

	"trunnel/api"
)

// These functions say with math/big what the definitions of the chapter say.

type vector [3]*big.Rat

func rat(text api.Rat) *big.Rat {
	x, ok := new(big.Rat).SetString(string(text))
	if !ok {
		panic("no number: " + text)
	}
	return x
}

func text(x *big.Rat) api.Rat { return api.Rat(x.RatString()) }

func read(v api.Vec) vector { return vector{rat(v[0]), rat(v[1]), rat(v[2])} }

func readAll(l []api.Vec) []vector {
	var all []vector
	for _, v := range l {
		all = append(all, read(v))
	}
	return all
}

func texts(l []vector) []api.Vec {
	var all []api.Vec
	for _, v := range l {
		all = append(all, api.Vec{text(v[0]), text(v[1]), text(v[2])})
	}
	return all
}

func plus(a, b vector) vector {
	var c vector
	for i := range c {
		c[i] = new(big.Rat).Add(a[i], b[i])
	}
	return c
}

func times(c *big.Rat, a vector) vector {
	var b vector
	for i := range b {
		b[i] = new(big.Rat).Mul(c, a[i])
	}
	return b
}

func minus(a, b vector) vector { return plus(a, times(big.NewRat(-1, 1), b)) }

func dot(a, b vector) *big.Rat {
	sum := new(big.Rat)
	for i := range a {
		sum.Add(sum, new(big.Rat).Mul(a[i], b[i]))
	}
	return sum
}

func cross(a, b vector) vector {
	var c vector
	for i := range c {
		j, k := (i+1)%3, (i+2)%3
		c[i] = new(big.Rat).Sub(new(big.Rat).Mul(a[j], b[k]), new(big.Rat).Mul(a[k], b[j]))
	}
	return c
}

func isZero(a vector) bool { return dot(a, a).Sign() == 0 }

// toOther returns the vector from one end of a bar to the other one, if a node is an end of it.
func toOther(t api.Truss, bar api.Bar, node int) (vector, bool) {
	from, to := read(t.Nodes[bar.From]), read(t.Nodes[bar.To])
	switch node {
	case bar.From:
		return minus(to, from), true
	case bar.To:
		return minus(from, to), true
	}
	return vector{}, false
}

// matrixOf returns the equilibrium matrix.
func matrixOf(t api.Truss) [][]*big.Rat {
	var rows [][]*big.Rat
	for node, holds := range t.Held {
		for axis, isHeld := range holds {
			if isHeld {
				continue
			}
			numbers := []*big.Rat{}
			for _, bar := range t.Bars {
				x := new(big.Rat)
				if v, is := toOther(t, bar, node); is {
					x = v[axis]
				}
				numbers = append(numbers, x)
			}
			rows = append(rows, numbers)
		}
	}
	return rows
}

// rankOf returns the rank of a matrix, which it changes.
func rankOf(m [][]*big.Rat) int {
	rank := 0
	for column := 0; len(m) > 0 && column < len(m[0]); column++ {
		pivot := rank
		for pivot < len(m) && m[pivot][column].Sign() == 0 {
			pivot++
		}
		if pivot == len(m) {
			continue
		}
		m[rank], m[pivot] = m[pivot], m[rank]
		for _, r := range m[rank+1:] {
			factor := new(big.Rat).Quo(r[column], m[rank][column])
			for i := range r {
				r[i].Sub(r[i], new(big.Rat).Mul(factor, m[rank][i]))
			}
		}
		rank++
	}
	return rank
}

// isReduced reports whether lists are a reduced basis.
func isReduced(lists [][]*big.Rat) bool {
	before := -1
	for i, list := range lists {
		first := 0
		for first < len(list) && list[first].Sign() == 0 {
			first++
		}
		if first == len(list) || first <= before || list[first].Cmp(big.NewRat(1, 1)) != 0 {
			return false
		}
		before = first
		for j, other := range lists {
			if i != j && other[first].Sign() != 0 {
				return false
			}
		}
	}
	return true
}

// freeOf returns the free coordinates of vectors, and whether all other ones are 0.
func freeOf(t api.Truss, vectors []vector) ([]*big.Rat, bool) {
	numbers, only := []*big.Rat{}, true
	for node, v := range vectors {
		for axis, x := range v {
			if !t.Held[node][axis] {
				numbers = append(numbers, x)
			} else if x.Sign() != 0 {
				only = false
			}
		}
	}
	return numbers, only
}

// isMotion reports whether vectors are a motion.
func isMotion(t api.Truss, vectors []vector) bool {
	if _, only := freeOf(t, vectors); !only {
		return false
	}
	for _, bar := range t.Bars {
		way, _ := toOther(t, bar, bar.From)
		if dot(minus(vectors[bar.To], vectors[bar.From]), way).Sign() != 0 {
			return false
		}
	}
	return true
}

// workOf returns the work of loads on a motion.
func workOf(loads, motion []api.Vec) *big.Rat {
	sum := new(big.Rat)
	for i := range loads {
		sum.Add(sum, dot(read(loads[i]), read(motion[i])))
	}
	return sum
}

// forceOn returns the sum of the forces of bars on a node.
func forceOn(t api.Truss, coefficients []api.Rat, node int) vector {
	sum := vector{new(big.Rat), new(big.Rat), new(big.Rat)}
	for i, bar := range t.Bars {
		if v, is := toOther(t, bar, node); is {
			sum = plus(sum, times(rat(coefficients[i]), v))
		}
	}
	return sum
}

// balanced returns loads that are in equilibrium with coefficients in the free coordinates, and are as they were in the other ones.
func balanced(t api.Truss, coefficients []api.Rat, loads []api.Vec) []vector {
	all := readAll(loads)
	for node := range all {
		force := forceOn(t, coefficients, node)
		for axis := range force {
			if !t.Held[node][axis] {
				all[node][axis] = force[axis].Neg(force[axis])
			}
		}
	}
	return all
}

// areForces reports whether coefficients and reactions are in equilibrium with loads.
func areForces(t api.Truss, loads []api.Vec, coefficients []api.Rat, reactions []api.Vec) bool {
	for node, load := range loads {
		reaction := read(reactions[node])
		for axis, isHeld := range t.Held[node] {
			if !isHeld && reaction[axis].Sign() != 0 {
				return false
			}
		}
		if !isZero(plus(plus(read(load), reaction), forceOn(t, coefficients, node))) {
			return false
		}
	}
	return true
}
