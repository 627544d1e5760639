package joint_test

import (
	"math/big"
	"math/rand"
	"reflect"
	"slices"
	"strconv"
	"strings"
	"testing"

	"trunnel/api"
	"trunnel/joint"
	"trunnel/solid"
	"trunnel/space"
)

// want reports a result or an error that is not the wanted one; empty lists are equal.
func want[T any](t *testing.T, what string, got T, e api.Errno, wanted T, wantedErr api.Errno) {
	t.Helper()
	empty := func(x T) bool { v := reflect.ValueOf(x); return v.Kind() == reflect.Slice && v.Len() == 0 }
	if e != wantedErr || !reflect.DeepEqual(got, wanted) && !(empty(got) && empty(wanted)) {
		t.Errorf("%s: got %v, error %d; want %v, error %d", what, got, e, wanted, wantedErr)
	}
}

// wantError reports an error that is not the wanted one.
func wantError(t *testing.T, what string, e, wanted api.Errno) {
	t.Helper()
	want(t, what, 0, e, 0, wanted)
}

// sure returns the result of a function that has no error here.
func sure[T any](result T, e api.Errno) T {
	if e != api.OK {
		panic("error " + strconv.Itoa(int(e)))
	}
	return result
}

// one and two make a result of any type of one or two results.
func one[A any](a A, e api.Errno) (any, api.Errno) { return a, e }

func two[A, B any](a A, b B, e api.Errno) (any, api.Errno) {
	return struct {
		a A
		b B
	}{a, b}, e
}

func integer(i int) api.Rat { return api.Rat(strconv.Itoa(i)) }

// digits returns a number of so many digits.
func digits(n int) api.Rat { return api.Rat(strings.Repeat("7", n)) }

func nines(n int) api.Rat { return api.Rat(strings.Repeat("9", n)) }

func zeros(n int) api.Rat { return api.Rat(strings.Repeat("0", n)) }

func half(a, b, c int, d api.Rat) api.Half { return api.Half{N: [3]int{a, b, c}, D: d} }

// block returns the box with the edges along the axes from one corner to another one.
func block(x0, y0, z0, x1, y1, z1 api.Rat) api.Body {
	less := func(x api.Rat) api.Rat { return sure(space.Sub("0", x)) }
	return api.Body{
		half(-1, 0, 0, less(x0)), half(0, -1, 0, less(y0)), half(0, 0, -1, less(z0)),
		half(0, 0, 1, z1), half(0, 1, 0, y1), half(1, 0, 0, x1),
	}
}

func volume(s api.Solid) api.Rat { return sure(solid.Volume(s)) }

// volumes returns the volumes of the two results of Taken.
func volumes(t api.Timbers, i int) [2]api.Rat {
	a, b, e := joint.Taken(t, i)
	sure(0, e)
	return [2]api.Rat{volume(a), volume(b)}
}

func origin() api.Vec { return api.Vec{"0", "0", "0"} }

// plain returns the frame of space with another origin.
func plain(at api.Vec) api.Frame {
	return api.Frame{Origin: at, X: api.Vec{"1", "0", "0"}, Y: api.Vec{"0", "1", "0"}, Z: api.Vec{"0", "0", "1"}}
}

// stick returns a member along the axes of space.
func stick(name string, at api.Vec, size ...api.Rat) api.Member {
	return api.Member{Name: name, Frame: plain(at), Size: api.Vec(size)}
}

// beam and post return the members P and Q of the examples.
func beam() api.Member { return stick("P", origin(), "10", "4", "4") }

func post() api.Member {
	return api.Member{
		Name:  "Q",
		Frame: api.Frame{Origin: api.Vec{"4", "1", "-6"}, X: api.Vec{"0", "0", "1"}, Y: api.Vec{"1", "0", "0"}, Z: api.Vec{"0", "1", "0"}},
		Size:  api.Vec{"8", "2", "2"},
	}
}

// timbers returns members with joints.
func timbers(members []api.Member, joints ...api.Joint) api.Timbers {
	return api.Timbers{Members: members, Joints: joints}
}

// tie returns a joint of a in b.
func tie(kind, a, b string, numbers ...api.Rat) api.Joint {
	return api.Joint{Kind: kind, A: a, B: b, Numbers: numbers}
}

// pair returns P and Q with joints.
func pair(joints ...api.Joint) api.Timbers { return timbers([]api.Member{beam(), post()}, joints...) }

// joined returns P and Q with a joint of Q in P.
func joined(kind string, numbers ...api.Rat) api.Timbers {
	return pair(tie(kind, "Q", "P", numbers...))
}

// tenon returns the timbers of the examples, pegged those with the peg of example 4 behind the tenon.
func tenon() api.Timbers { return joined("tenon", "0", "8", "1/2", "3/2", "0", "2") }

func pegged() api.Timbers {
	t := tenon()
	t.Joints = append(t.Joints, tie("peg", "P", "Q", "5", "1", "1/4", "0", "4"))
	return t
}

// kindNumbers returns the kinds of joints, each one with Numbers that it may have.
func kindNumbers() map[string][]api.Rat {
	return map[string][]api.Rat{
		"housing": nil, "birdsmouth": nil,
		"tenon": {"0", "8", "1/2", "3/2", "0", "2"}, "lap": {"-1", "1"}, "scarf": {"1/2", "7"},
		"dovetail": {"6", "8", "1/2", "3/2", "0", "2", "1/4"}, "peg": {"7", "1", "1/4", "0", "2"},
	}
}

// source makes arguments, the same ones in each run.
type source struct{ *rand.Rand }

func newSource(seed int64) source { return source{rand.New(rand.NewSource(seed))} }

// rat returns a number from one integer to another one, with a small denominator.
func (s source) rat(from, to int) api.Rat {
	den := []int{1, 1, 2, 3}[s.Intn(4)]
	return sure(space.Of(from*den+s.Intn((to-from)*den+1), den))
}

func (s source) vec(from, to int) api.Vec {
	return api.Vec{s.rat(from, to), s.rat(from, to), s.rat(from, to)}
}

// rising returns two numbers, the first one of which is below the second one.
func (s source) rising(from, to int) []api.Rat {
	low := s.rat(from, to-1)
	return []api.Rat{low, sure(space.Add(low, s.rat(1, 2)))}
}

// turned returns a frame that is turned, with axes of the same length.
func (s source) turned() api.Frame {
	for {
		f, e := space.Turn([4]api.Rat{integer(s.Intn(3)), integer(s.Intn(3) - 1), integer(s.Intn(3) - 1), integer(s.Intn(3) - 1)})
		if e == api.OK {
			f.Origin = s.vec(-1, 1)
			return f
		}
	}
}

// member returns a member round the origin with a frame of any kind.
func (s source) member(name string) api.Member {
	f, size := s.turned(), api.Vec{s.rat(3, 5), s.rat(1, 3), s.rat(2, 4)}
	f.Y, f.Z = sure(space.Scale(s.rat(1, 2), f.Y)), sure(space.Scale("1/2", f.Z))
	middle := sure(space.Place(f, sure(space.Scale("1/2", size))))
	f.Origin = sure(space.SubVec(sure(space.Scale("2", f.Origin)), middle))
	return api.Member{Name: name, Frame: f, Size: size}
}

// joint returns a joint of a kind with any numbers.
func (s source) joint(kind, a, b string) api.Joint {
	var numbers []api.Rat
	switch kind {
	case "tenon", "dovetail":
		numbers = slices.Concat(s.rising(0, 4), s.rising(0, 2), s.rising(0, 3))
		if kind == "dovetail" {
			numbers = append(numbers, s.rat(0, 2))
		}
	case "lap":
		numbers = []api.Rat{integer(2*s.Intn(2) - 1), s.rat(0, 3)}
	case "scarf":
		numbers = []api.Rat{s.rat(-2, 2), s.rat(0, 5)}
	case "peg":
		numbers = append([]api.Rat{s.rat(0, 4), s.rat(0, 3), s.rat(1, 2)}, s.rising(-1, 2)...)
	}
	return tie(kind, a, b, numbers...)
}

// timbers returns members with a joint between each two neighbours, and some pegs.
func (s source) timbers(members int) api.Timbers {
	kinds := []string{"housing", "tenon", "lap", "scarf", "dovetail", "birdsmouth"}
	var t api.Timbers
	for k := range members {
		t.Members = append(t.Members, s.member("M"+strconv.Itoa(k)))
	}
	for k := range t.Members[1:] {
		a, b := t.Members[k].Name, t.Members[k+1].Name
		if s.Intn(2) == 0 {
			a, b = b, a
		}
		t.Joints = append(t.Joints, s.joint(kinds[s.Intn(len(kinds))], a, b))
		if s.Intn(3) == 0 {
			t.Joints = append(t.Joints, s.joint("peg", a, b))
		}
	}
	return t
}

// bigOf returns the number of a text.
func bigOf(a api.Rat) *big.Rat {
	x, ok := new(big.Rat).SetString(string(a))
	if !ok {
		panic("no number: " + string(a))
	}
	return x
}

func bigVec(v api.Vec) [3]*big.Rat { return [3]*big.Rat{bigOf(v[0]), bigOf(v[1]), bigOf(v[2])} }

// coordinates returns those of a point in a frame, by their definition.
func coordinates(f api.Frame, p api.Vec) [3]*big.Rat {
	q, o := bigVec(p), bigVec(f.Origin)
	var c [3]*big.Rat
	for i, axis := range []api.Vec{f.X, f.Y, f.Z} {
		product, square := new(big.Rat), new(big.Rat)
		for j, x := range bigVec(axis) {
			product.Add(product, new(big.Rat).Mul(x, new(big.Rat).Sub(q[j], o[j])))
			square.Add(square, new(big.Rat).Mul(x, x))
		}
		c[i] = product.Quo(product, square)
	}
	return c
}
