package nest_test

import (
	"math/rand"
	"reflect"
	"slices"
	"strings"
	"testing"

	"trunnel/api"
)

// want reports a result or an error that is not the wanted one; empty lists are equal.
func want[T any](t *testing.T, what string, got T, e api.Errno, wanted T, wantedErr api.Errno) {
	t.Helper()
	if e != wantedErr || !alike(reflect.ValueOf(got), reflect.ValueOf(wanted)) {
		t.Errorf("%s: got %v, error %d; want %v, error %d", what, got, e, wanted, wantedErr)
	}
}

// alike is reflect.DeepEqual, but for empty lists, which are equal at any depth.
func alike(a, b reflect.Value) bool {
	switch a.Kind() {
	case reflect.Slice, reflect.Array:
		if a.Len() != b.Len() {
			return false
		}
		for i := range a.Len() {
			if !alike(a.Index(i), b.Index(i)) {
				return false
			}
		}
		return true
	case reflect.Struct:
		for i := range a.NumField() {
			if !alike(a.Field(i), b.Field(i)) {
				return false
			}
		}
		return true
	}
	return a.Equal(b)
}

// wantError reports an error that is not the wanted one.
func wantError(t *testing.T, what string, e, wanted api.Errno) {
	t.Helper()
	want(t, what, 0, e, 0, wanted)
}

// digits returns a number of so many digits.
func digits(n int) api.Rat { return api.Rat(strings.Repeat("7", n)) }

const (
	most  = api.MaxNumber
	above = api.MaxNumber + 1
	huge  = 1<<63 - 1
)

// bar returns a beam.
func bar(length int, defects ...[2]int) api.Beam { return api.Beam{Length: length, Defects: defects} }

// stock and parts return the stock and the pieces of the examples.
func stock() []api.Beam { return []api.Beam{bar(100, [2]int{40, 50}), bar(60)} }

func parts() []int { return []int{30, 40, 30} }

// bars returns equal beams without defects.
func bars(n, length int) []api.Beam { return slices.Repeat([]api.Beam{bar(length)}, n) }

// on returns a placing: the beam and the beginning of each piece.
func on(numbers ...int) []api.Placing {
	l := []api.Placing{}
	for p := range slices.Chunk(numbers, 2) {
		l = append(l, api.Placing{Beam: p[0], At: p[1]})
	}
	return l
}

// isUsable reports point by point whether a piece may lie on a beam.
func isUsable(b api.Beam, from, to int) bool {
	if from < 0 || to > b.Length {
		return false
	}
	for _, d := range b.Defects {
		for x := d[0]; x <= d[1]; x++ {
			inside := from < x && x < to
			whole := from <= x && x < to && x < d[1] // a unit of length of a defect
			if inside || whole {
				return false
			}
		}
	}
	return true
}

// areApart reports whether two pieces on one beam, from a first to a second number, have the kerf between them.
func areApart(p, q [2]int, kerf int) bool { return p[0] >= q[1]+kerf || q[0] >= p[1]+kerf }

// isValid reports whether pieces are placed as the chapter defines it.
func isValid(beams []api.Beam, pieces []int, kerf int, l []api.Placing) bool {
	for i, p := range l {
		if !isUsable(beams[p.Beam], p.At, p.At+pieces[i]) {
			return false
		}
		for j, q := range l[:i] {
			if p.Beam == q.Beam && !areApart([2]int{p.At, p.At + pieces[i]}, [2]int{q.At, q.At + pieces[j]}, kerf) {
				return false
			}
		}
	}
	return true
}

// total returns the sum of the lengths of the beams that are used.
func total(beams []api.Beam, l []api.Placing) int {
	sum := 0
	for i, b := range beams {
		if slices.ContainsFunc(l, func(p api.Placing) bool { return p.Beam == i }) {
			sum += b.Length
		}
	}
	return sum
}

func sum(numbers []int) int {
	all := 0
	for _, n := range numbers {
		all += n
	}
	return all
}

// source makes arguments, the same ones in each run.
type source struct{ *rand.Rand }

func newSource(seed int64) source { return source{rand.New(rand.NewSource(seed))} }

// from returns a number from a least to a most one.
func (s source) from(least, most int) int { return least + s.Intn(most-least+1) }

// beam returns a beam up to a length, with some defects.
func (s source) beam(length int) api.Beam {
	b := bar(s.from(1, length))
	at := 0
	for range s.Intn(5) {
		d := [2]int{s.from(at, b.Length), 0}
		d[1] = min(b.Length, d[0]+s.Intn(3))
		b.Defects = append(b.Defects, d)
		at = d[1]
	}
	return b
}

func (s source) beams(count, length int) []api.Beam {
	beams := make([]api.Beam, count)
	for i := range beams {
		beams[i] = s.beam(length)
	}
	return beams
}

func (s source) pieces(count, length int) []int {
	pieces := make([]int, count)
	for i := range pieces {
		pieces[i] = s.from(1, length)
	}
	return pieces
}
