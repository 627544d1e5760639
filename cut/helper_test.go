package cut_test

import (
	"math/rand"
	"reflect"
	"slices"
	"strconv"
	"strings"
	"testing"

	"trunnel/api"
	"trunnel/space"
)

// want reports a result or an error that is not the wanted one; empty lists are equal.
func want[T any](t *testing.T, what string, got T, e api.Errno, wanted T, wantedErr api.Errno) {
	t.Helper()
	if e != wantedErr || !alike(reflect.ValueOf(got), reflect.ValueOf(wanted)) {
		t.Errorf("%s: got %v, error %d; want %v, error %d", what, got, e, wanted, wantedErr)
	}
}

// alike is reflect.DeepEqual, but for empty lists, which are equal at any depth.
func alike(a, b reflect.Value) bool {
	switch a.Kind() {
	case reflect.Slice, reflect.Array:
		if a.Len() != b.Len() {
			return false
		}
		for i := range a.Len() {
			if !alike(a.Index(i), b.Index(i)) {
				return false
			}
		}
		return true
	case reflect.Struct:
		for i := range a.NumField() {
			if !alike(a.Field(i), b.Field(i)) {
				return false
			}
		}
		return true
	}
	return a.Equal(b)
}

// wantError reports an error that is not the wanted one.
func wantError(t *testing.T, what string, e, wanted api.Errno) {
	t.Helper()
	want(t, what, 0, e, 0, wanted)
}

// sure returns the result of a function that has no error here.
func sure[T any](result T, e api.Errno) T {
	if e != api.OK {
		panic("error " + strconv.Itoa(int(e)))
	}
	return result
}

// clone returns a list that shares no memory with another one.
func clone(l []api.Cut) []api.Cut {
	l = slices.Clone(l)
	for i, c := range l {
		l[i].Numbers = slices.Clone(c.Numbers)
	}
	return l
}

func integer(i int) api.Rat { return api.Rat(strconv.Itoa(i)) }

// digits returns a number of so many digits.
func digits(n int) api.Rat { return api.Rat(strings.Repeat("7", n)) }

func zeros(n int) api.Rat { return api.Rat(strings.Repeat("0", n)) }

// small and smaller return numbers whose products, sums and differences with each other have more than 600 digits.
func small() api.Rat { return "1/1" + zeros(400) }

func smaller() api.Rat { return "1/1" + zeros(399) + "1" }

func half(a, b, c int, d api.Rat) api.Half { return api.Half{N: [3]int{a, b, c}, D: d} }

// block returns the box with the edges along the axes from one corner to another one.
func block(x0, y0, z0, x1, y1, z1 api.Rat) api.Body {
	less := func(x api.Rat) api.Rat { return sure(space.Sub("0", x)) }
	return api.Body{
		half(-1, 0, 0, less(x0)), half(0, -1, 0, less(y0)), half(0, 0, -1, less(z0)),
		half(0, 0, 1, z1), half(0, 1, 0, y1), half(1, 0, 0, x1),
	}
}

func origin() api.Vec { return api.Vec{"0", "0", "0"} }

// plain returns the frame of space with another origin.
func plain(at api.Vec) api.Frame {
	return api.Frame{Origin: at, X: api.Vec{"1", "0", "0"}, Y: api.Vec{"0", "1", "0"}, Z: api.Vec{"0", "0", "1"}}
}

// stick returns a member along the axes of space.
func stick(name string, at api.Vec, size ...api.Rat) api.Member {
	return api.Member{Name: name, Frame: plain(at), Size: api.Vec(size)}
}

// beam and post return the members P and Q of the examples.
func beam() api.Member { return stick("P", origin(), "10", "4", "4") }

func post() api.Member {
	return api.Member{
		Name:  "Q",
		Frame: api.Frame{Origin: api.Vec{"4", "1", "-6"}, X: api.Vec{"0", "0", "1"}, Y: api.Vec{"1", "0", "0"}, Z: api.Vec{"0", "1", "0"}},
		Size:  api.Vec{"8", "2", "2"},
	}
}

// slanting returns a member whose axes are neither along those of space nor of the length 1.
func slanting() api.Member {
	return api.Member{
		Name:  "S",
		Frame: api.Frame{Origin: api.Vec{"1", "-2", "1/2"}, X: api.Vec{"3", "4", "0"}, Y: api.Vec{"0", "0", "-1/2"}, Z: api.Vec{"-4", "3", "0"}},
		Size:  api.Vec{"10", "3", "4"},
	}
}

// made returns a cut.
func made(kind, face string, numbers ...api.Rat) api.Cut {
	return api.Cut{Kind: kind, Face: face, Numbers: numbers}
}

// timbers returns members with joints.
func timbers(members []api.Member, joints ...api.Joint) api.Timbers {
	return api.Timbers{Members: members, Joints: joints}
}

// tie returns a joint of a in b.
func tie(kind, a, b string, numbers ...api.Rat) api.Joint {
	return api.Joint{Kind: kind, A: a, B: b, Numbers: numbers}
}

// joined returns P and Q with joints of Q in P.
func joined(joints ...api.Joint) api.Timbers {
	return timbers([]api.Member{beam(), post()}, joints...)
}

// tenon returns the timbers of the examples.
func tenon() api.Timbers {
	return joined(tie("tenon", "Q", "P", "0", "8", "1/2", "3/2", "0", "2"))
}

// names returns the names of the faces.
func names() []string { return []string{"top", "bottom", "left", "right", "start", "end"} }

// source makes arguments, the same ones in each run.
type source struct{ *rand.Rand }

func newSource(seed int64) source { return source{rand.New(rand.NewSource(seed))} }

// rat returns a number from one integer to another one, with a small denominator.
func (s source) rat(from, to int) api.Rat {
	den := []int{1, 1, 2, 3}[s.Intn(4)]
	return sure(space.Of(from*den+s.Intn((to-from)*den+1), den))
}

func (s source) vec(from, to int) api.Vec {
	return api.Vec{s.rat(from, to), s.rat(from, to), s.rat(from, to)}
}

// rising returns two numbers, the first one of which is below the second one.
func (s source) rising(from, to int) []api.Rat {
	low := s.rat(from, to-1)
	return []api.Rat{low, sure(space.Add(low, s.rat(1, 3)))}
}

// plane returns four numbers, the first three of which are not all 0.
func (s source) plane() []api.Rat {
	for {
		n := s.vec(-1, 1)
		if n != origin() {
			return append(n[:], s.rat(-1, 4))
		}
	}
}

// member returns a member round the origin with a frame of any kind.
func (s source) member(name string) api.Member {
	f, e := space.Turn([4]api.Rat{integer(1 + s.Intn(2)), integer(s.Intn(3) - 1), integer(s.Intn(3) - 1), integer(s.Intn(3) - 1)})
	sure(f, e)
	size := api.Vec{s.rat(3, 5), s.rat(1, 3), s.rat(2, 4)}
	f.Y, f.Z = sure(space.Scale(s.rat(1, 2), f.Y)), sure(space.Scale("1/2", f.Z))
	middle := sure(space.Place(f, sure(space.Scale("1/2", size))))
	f.Origin = sure(space.SubVec(s.vec(-1, 1), middle))
	return api.Member{Name: name, Frame: f, Size: size}
}

// cut returns a cut with any numbers, on one of the first faces.
func (s source) cut(faces int) api.Cut {
	face := names()[s.Intn(faces)]
	switch s.Intn(6) {
	case 0:
		return made("saw", face, s.plane()...)
	case 1:
		n := append([]api.Rat{s.rat(0, 4), s.rat(0, 3), s.rat(1, 2)}, s.rising(-1, 3)...)
		return made("bore", face, n...)
	case 2:
		var n []api.Rat
		for range s.Intn(4) {
			n = append(n, s.plane()...)
		}
		return made("pocket", face, n...)
	}
	return made("slot", face, slices.Concat(s.rising(-1, 4), s.rising(-1, 2), s.rising(-1, 3))...)
}

// list returns a list of cuts on some of the first faces.
func (s source) list(cuts, faces int) []api.Cut {
	l := make([]api.Cut, cuts)
	for i := range l {
		l[i] = s.cut(faces)
	}
	return l
}

// joint returns a joint of a kind with any numbers.
func (s source) joint(kind, a, b string) api.Joint {
	var numbers []api.Rat
	switch kind {
	case "tenon", "dovetail":
		numbers = slices.Concat(s.rising(0, 4), s.rising(0, 2), s.rising(0, 3))
		if kind == "dovetail" {
			numbers = append(numbers, s.rat(0, 2))
		}
	case "lap":
		numbers = []api.Rat{integer(2*s.Intn(2) - 1), s.rat(0, 3)}
	case "scarf":
		numbers = []api.Rat{s.rat(-2, 2), s.rat(0, 5)}
	case "peg":
		numbers = append([]api.Rat{s.rat(0, 4), s.rat(0, 3), s.rat(1, 2)}, s.rising(-1, 2)...)
	}
	return tie(kind, a, b, numbers...)
}

// timbers returns three members, of which the first one has joints with both others, and some pegs.
func (s source) timbers() api.Timbers {
	kinds := []string{"housing", "tenon", "lap", "scarf", "dovetail", "birdsmouth"}
	t := timbers([]api.Member{s.member("A"), s.member("B"), s.member("C")})
	for _, m := range t.Members[1:] {
		a, b := "A", m.Name
		if s.Intn(2) == 0 {
			a, b = b, a
		}
		t.Joints = append(t.Joints, s.joint(kinds[s.Intn(len(kinds))], a, b))
		if s.Intn(3) == 0 {
			t.Joints = append(t.Joints, s.joint("peg", a, b))
		}
	}
	return t
}
