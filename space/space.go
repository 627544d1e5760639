// Package space is layer 1: see shared/doc/01-space.md.
//
// Every exported function reads its arguments (texts) into numbers without limits, computes with
// these, and writes the result, which is the only place where it may become too large. The types
// of these numbers (Number, Vector, Half) are exported for the packages of the other layers, whose
// numbers on the way have no limits either.
package space

import "trunnel/api"

// IsName reports whether a text is a name.
func IsName(s string) bool {
	for i, letter := range s {
		if !isLetter(letter) && (i == 0 || !isBehind(letter)) {
			return false
		}
	}
	return s != "" && len(s) <= api.MaxName
}

func isLetter(letter rune) bool {
	return 'a' <= letter && letter <= 'z' || 'A' <= letter && letter <= 'Z'
}

// isBehind reports whether a name may have this behind its first letter, beside letters.
func isBehind(letter rune) bool {
	return '0' <= letter && letter <= '9' || letter == '_'
}

// first returns the first of several errors, or OK.
func first(errors ...api.Errno) api.Errno {
	for _, e := range errors {
		if e != api.OK {
			return e
		}
	}
	return api.OK
}

// readBoth reads two arguments, and returns the first error of both.
func readBoth[A, B, X, Y any](readA func(A) (X, api.Errno), a A, readB func(B) (Y, api.Errno), b B) (X, Y, api.Errno) {
	x, errA := readA(a)
	y, errB := readB(b)
	return x, y, first(errA, errB)
}

// join returns what an operation makes of the elements of two triples, one by one.
func join[A, B, C any](operation func(A, B) C, a [3]A, b [3]B) [3]C {
	var c [3]C
	for i := range c {
		c[i] = operation(a[i], b[i])
	}
	return c
}

// each returns what an operation makes of each element of a triple.
func each[A, B any](operation func(A) B, a [3]A) [3]B {
	var b [3]B
	for i := range b {
		b[i] = operation(a[i])
	}
	return b
}
