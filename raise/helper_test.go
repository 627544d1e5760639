package raise_test

import (
	"math/rand"
	"reflect"
	"slices"
	"strconv"
	"strings"
	"testing"

	"trunnel/api"
	"trunnel/joint"
	"trunnel/solid"
	"trunnel/space"
)

// want reports a result or an error that is not the wanted one; empty lists are equal.
func want[T any](t *testing.T, what string, got T, e api.Errno, wanted T, wantedErr api.Errno) {
	t.Helper()
	if e != wantedErr || !alike(reflect.ValueOf(got), reflect.ValueOf(wanted)) {
		t.Errorf("%s: got %v, error %d; want %v, error %d", what, got, e, wanted, wantedErr)
	}
}

// alike is reflect.DeepEqual, but for empty lists, which are equal at any depth.
func alike(a, b reflect.Value) bool {
	switch a.Kind() {
	case reflect.Slice, reflect.Array:
		if a.Len() != b.Len() {
			return false
		}
		for i := range a.Len() {
			if !alike(a.Index(i), b.Index(i)) {
				return false
			}
		}
		return true
	case reflect.Struct:
		for i := range a.NumField() {
			if !alike(a.Field(i), b.Field(i)) {
				return false
			}
		}
		return true
	}
	return a.Equal(b)
}

// wantError reports an error that is not the wanted one.
func wantError(t *testing.T, what string, e, wanted api.Errno) {
	t.Helper()
	want(t, what, 0, e, 0, wanted)
}

// sure returns the result of a function that has no error here.
func sure[T any](result T, e api.Errno) T {
	if e != api.OK {
		panic("error " + strconv.Itoa(int(e)))
	}
	return result
}

func integer(i int) api.Rat { return api.Rat(strconv.Itoa(i)) }

// digits returns a number of so many digits, and ten the least one of so many.
func digits(n int) api.Rat { return api.Rat(strings.Repeat("7", n)) }

func ten(digits int) api.Rat { return "1" + api.Rat(strings.Repeat("0", digits-1)) }

// vec returns a vector of texts with spaces between them, and vecs a list of them, with commas between them.
func vec(text string) api.Vec {
	var v api.Vec
	for i, x := range strings.Fields(text) {
		v[i] = api.Rat(x)
	}
	return v
}

func vecs(text string) []api.Vec {
	var l []api.Vec
	for part := range strings.SplitSeq(text, ",") {
		l = append(l, vec(part))
	}
	return l
}

// points returns points in the plane, with commas between them.
func points(text string) [][2]api.Rat {
	var l [][2]api.Rat
	for part := range strings.SplitSeq(text, ",") {
		if words := strings.Fields(part); len(words) > 0 {
			l = append(l, [2]api.Rat{api.Rat(words[0]), api.Rat(words[1])})
		}
	}
	return l
}

// upTo returns the numbers below n.
func upTo(n int) []int {
	l := make([]int, n)
	for i := range l {
		l[i] = i
	}
	return l
}

// plain returns the frame of space with another origin.
func plain(at api.Vec) api.Frame {
	return api.Frame{Origin: at, X: vec("1 0 0"), Y: vec("0 1 0"), Z: vec("0 0 1")}
}

// stick returns a member along the axes of space.
func stick(name, at, size string) api.Member {
	return api.Member{Name: name, Frame: plain(vec(at)), Size: vec(size)}
}

// turned returns a member with the axes of a frame.
func turned(name, at, size, x, y, z string) api.Member {
	return api.Member{Name: name, Frame: api.Frame{Origin: vec(at), X: vec(x), Y: vec(y), Z: vec(z)}, Size: vec(size)}
}

// box returns the solid of a box along the axes of space, from one corner to another one.
func box(from, to string) api.Solid {
	low, high := vec(from), vec(to)
	return api.Solid{sure(solid.Box(plain(low), sure(space.SubVec(high, low))))}
}

// timbers returns members with joints, and tie a joint.
func timbers(members []api.Member, joints ...api.Joint) api.Timbers {
	return api.Timbers{Members: members, Joints: joints}
}

func tie(kind, a, b string, numbers ...api.Rat) api.Joint {
	return api.Joint{Kind: kind, A: a, B: b, Numbers: numbers}
}

// housings returns joints that take nothing from members that only touch: of the members of each text.
func housings(pairs ...string) []api.Joint {
	var l []api.Joint
	for _, pair := range pairs {
		names := strings.Fields(pair)
		l = append(l, tie("housing", names[0], names[1]))
	}
	return l
}

// yard returns the timbers of the examples, and heavy those of the last example.
func yard() api.Timbers {
	return timbers([]api.Member{stick("sill", "0 0 0", "10 2 2"), stick("post", "4 0 2", "2 2 6"), stick("arm", "6 0 6", "8 2 2")}, housings("sill post", "post arm")...)
}

func heavy() api.Timbers {
	return timbers([]api.Member{stick("sill", "0 0 0", "3 2 2"), stick("post", "0 0 2", "2 2 6"), stick("arm", "2 0 6", "20 2 2")}, housings("sill post", "post arm")...)
}

// ways returns the directions of the examples.
func ways() []api.Vec { return vecs("0 0 -1, -1 0 0") }

// moves returns moves: names and numbers of directions.
func moves(text string) []api.Move {
	var l []api.Move
	for m := range slices.Chunk(strings.Fields(text), 2) {
		direction, err := strconv.Atoi(m[1])
		if err != nil {
			panic(err)
		}
		l = append(l, api.Move{Member: m[0], Direction: direction})
	}
	return l
}

// name returns the name of a member: M0, M1, ..
func name(k int) string { return "M" + strconv.Itoa(k) }

// row returns so many cubes beside each other on the ground, which touch.
func row(count int) api.Timbers {
	var t api.Timbers
	for k := range count {
		t.Members = append(t.Members, stick(name(k), strconv.Itoa(k)+" 0 0", "1 1 1"))
	}
	return t
}

// tower returns so many cubes above each other, with joints between neighbours.
func tower(count int) api.Timbers {
	var t api.Timbers
	for k := range count {
		t.Members = append(t.Members, stick(name(k), "0 0 "+strconv.Itoa(k), "1 1 1"))
		if k > 0 {
			t.Joints = append(t.Joints, tie("housing", name(k-1), name(k)))
		}
	}
	return t
}

// source makes arguments, the same ones in each run.
type source struct{ *rand.Rand }

func newSource(seed int64) source { return source{rand.New(rand.NewSource(seed))} }

// from returns a number from a least to a most one.
func (s source) from(least, most int) int { return least + s.Intn(most-least+1) }

// rat returns a number from one integer to another one, sometimes with a small denominator.
func (s source) rat(from, to int) api.Rat {
	den := []int{1, 1, 1, 2, 3}[s.Intn(5)]
	return sure(space.Of(s.from(from*den, to*den), den))
}

// choice returns one of several texts.
func (s source) choice(texts ...string) string { return texts[s.Intn(len(texts))] }

// direction returns a direction, often along an axis.
func (s source) direction() api.Vec {
	if s.Intn(2) == 0 {
		return vec(s.choice("0 0 -1", "0 0 1", "1 0 0", "-2 0 0", "0 1/2 0", "0 -1 0"))
	}
	for {
		if v := (api.Vec{s.rat(-2, 2), s.rat(-2, 2), s.rat(-2, 2)}); v != vec("0 0 0") {
			return v
		}
	}
}

// directions returns so many directions at most.
func (s source) directions(most int) []api.Vec {
	l := make([]api.Vec, s.from(1, most))
	for i := range l {
		l[i] = s.direction()
	}
	return l
}

// subset returns some of the numbers below n, in any order.
func (s source) subset(n int) []int {
	return s.Perm(n)[:s.from(0, n)]
}

// axes returns the axes of a frame that is sometimes turned.
func (s source) axes() api.Frame {
	f := plain(vec("0 0 0"))
	switch s.Intn(6) {
	case 0:
		f.X, f.Y = vec("3/5 4/5 0"), vec("-4/5 3/5 0")
	case 1:
		f.X, f.Z = vec("3/5 0 4/5"), vec("-4/5 0 3/5")
	case 2:
		f.X, f.Y, f.Z = vec("0 0 1"), vec("1 0 0"), vec("0 1 0")
	}
	return f
}

// member returns a member near the origin.
func (s source) member(name string) api.Member {
	f := s.axes()
	f.Origin = api.Vec{s.rat(0, 4), s.rat(0, 4), integer([]int{0, 0, 0, 1, 2, 3, -1}[s.Intn(7)])}
	return api.Member{Name: name, Frame: f, Size: api.Vec{integer(s.from(1, 5)), integer(s.from(1, 2)), integer(s.from(1, 3))}}
}

// timbers returns timbers whose members seldom overlap, and have joints where they touch, or do overlap.
func (s source) timbers(members int) api.Timbers {
	var t api.Timbers
	for len(t.Members) < members {
		m := s.member(name(len(t.Members)))
		overlaps := slices.ContainsFunc(t.Members, func(o api.Member) bool {
			return len(sure(solid.And(sure(joint.Blank(m)), sure(joint.Blank(o))))) > 0
		})
		if !overlaps || s.Intn(12) == 0 {
			t.Members = append(t.Members, m)
		}
	}
	for k := range members {
		for i := range k {
			t.Joints = append(t.Joints, s.joints(t.Members[i], t.Members[k])...)
		}
	}
	return t
}

// joints returns a joint of two members, or none.
func (s source) joints(a, b api.Member) []api.Joint {
	one, other := sure(joint.Blank(a)), sure(joint.Blank(b))
	isNear := len(sure(solid.And(one, other))) > 0 || len(sure(solid.Contacts(one, other))) > 0
	if s.Intn(4) == 0 || !isNear && s.Intn(8) > 0 {
		return nil
	}
	switch s.Intn(5) {
	case 0:
		return []api.Joint{tie("lap", a.Name, b.Name, "1", "1/2")}
	case 1:
		return []api.Joint{tie("birdsmouth", b.Name, a.Name)}
	case 2:
		return []api.Joint{tie("peg", a.Name, b.Name, "1/2", "1/2", "1/4", "0", "1")}
	}
	return []api.Joint{tie("housing", a.Name, b.Name)}
}

func quotient(num, den int) api.Rat { return sure(space.Of(num, den)) }
