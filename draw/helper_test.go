package draw_test

import (
	"math/rand"
	"reflect"
	"slices"
	"strconv"
	"strings"
	"testing"

	"trunnel/api"
	"trunnel/draw"
	"trunnel/solid"
	"trunnel/space"
)

// want reports a result or an error that is not the wanted one; empty lists are equal.
func want[T any](t *testing.T, what string, got T, e api.Errno, wanted T, wantedErr api.Errno) {
	t.Helper()
	if e != wantedErr || !reflect.DeepEqual(got, wanted) && !(isEmpty(got) && isEmpty(wanted)) {
		t.Errorf("%s: got %v, error %d; want %v, error %d", what, got, e, wanted, wantedErr)
	}
}

// isEmpty reports whether a value is a list without elements.
func isEmpty(x any) bool {
	v := reflect.ValueOf(x)
	return v.Kind() == reflect.Slice && v.Len() == 0
}

// wantError reports an error that is not the wanted one.
func wantError(t *testing.T, what string, e, wanted api.Errno) {
	t.Helper()
	want(t, what, 0, e, 0, wanted)
}

// wantKind compares the error of any result, which is its zero value beside an error.
func wantKind(t *testing.T, what string, r any, e, wanted api.Errno) {
	t.Helper()
	wantError(t, what, e, wanted)
	if e != api.OK && r != nil && !isEmpty(r) && !reflect.ValueOf(r).IsZero() {
		t.Errorf("%s: got %v beside an error", what, r)
	}
}

// sure returns the result of a function that has no error here.
func sure[T any](result T, e api.Errno) T {
	if e != api.OK {
		panic("error " + strconv.Itoa(int(e)))
	}
	return result
}

func integer(i int) api.Rat { return api.Rat(strconv.Itoa(i)) }

func quotient(num, den int) api.Rat { return sure(space.Of(num, den)) }

// ten returns the least number of so many digits, and nines the greatest one.
func ten(digits int) api.Rat { return "1" + api.Rat(strings.Repeat("0", digits-1)) }

func nines(digits int) api.Rat { return api.Rat(strings.Repeat("9", digits)) }

// half returns a half-space.
func half(a, b, c int, d api.Rat) api.Half { return api.Half{N: [3]int{a, b, c}, D: d} }

// vec returns a vector of texts with spaces between them.
func vec(text string) api.Vec {
	var v api.Vec
	for i, x := range strings.Fields(text) {
		v[i] = api.Rat(x)
	}
	return v
}

// rats returns numbers with spaces between them.
func rats(text string) []api.Rat {
	var l []api.Rat
	for _, x := range strings.Fields(text) {
		l = append(l, api.Rat(x))
	}
	return l
}

// places returns places with commas between them.
func places(text string) [][2]api.Rat {
	var l [][2]api.Rat
	for part := range strings.SplitSeq(text, ",") {
		if words := rats(part); len(words) > 0 {
			l = append(l, [2]api.Rat{words[0], words[1]})
		}
	}
	return l
}

// lines returns lines of a drawing, with commas between them: an h stands before hidden ones, and a v before visible ones.
func lines(text string) []api.Line {
	var l []api.Line
	for part := range strings.SplitSeq(text, ",") {
		if words := rats(part); len(words) > 0 {
			l = append(l, api.Line{From: [2]api.Rat{words[1], words[2]}, To: [2]api.Rat{words[3], words[4]}, Hidden: words[0] == "h"})
		}
	}
	return l
}

// plain returns the frame of space with another origin.
func plain(at api.Vec) api.Frame {
	return api.Frame{Origin: at, X: vec("1 0 0"), Y: vec("0 1 0"), Z: vec("0 0 1")}
}

// frame returns a frame of the texts of its vectors.
func frame(origin, x, y, z string) api.Frame {
	return api.Frame{Origin: vec(origin), X: vec(x), Y: vec(y), Z: vec(z)}
}

// view returns a view of the texts of its vectors.
func view(origin, right, up string) api.View {
	return api.View{Origin: vec(origin), Right: vec(right), Up: vec(up)}
}

// front, skew and top return views: those of the examples, and one from above.
func front() api.View { return view("0 0 0", "1 0 0", "0 0 1") }

func skew() api.View { return view("0 0 0", "1 -1 0", "1 1 2") }

func top() api.View { return view("0 0 0", "1 0 0", "0 1 0") }

// box returns the box along the axes of space from one corner to another one: six numbers.
func box(text string) api.Body {
	words := rats(text)
	low, high := api.Vec(words[:3]), api.Vec(words[3:])
	return sure(solid.Box(plain(low), sure(space.SubVec(high, low))))
}

// boxes returns the solid of boxes, with commas between them.
func boxes(text string) api.Solid {
	var s api.Solid
	for part := range strings.SplitSeq(text, ",") {
		s = append(s, box(part))
	}
	return s
}

// hull returns the body with some corners, with commas between them.
func hull(text string) api.Body {
	var points []api.Vec
	for part := range strings.SplitSeq(text, ",") {
		points = append(points, vec(part))
	}
	return sure(solid.Hull(points))
}

// near and behind return the boxes B and D of the examples, cube the unit cube.
func near() api.Solid { return boxes("0 0 0 2 3 4") }

func behind() api.Solid { return boxes("0 5 0 1 6 1") }

func cube() api.Solid { return boxes("0 0 0 1 1 1") }

// divided returns a solid with each body divided by a plane.
func divided(s api.Solid, h api.Half) api.Solid {
	return slices.Concat(sure(solid.Cut(s, h)), sure(solid.Cut(s, sure(space.Opposite(h)))))
}

// moved returns solids that are placed by a frame.
func moved(solids []api.Solid, f api.Frame) []api.Solid {
	l := make([]api.Solid, len(solids))
	for i, s := range solids {
		l[i] = sure(solid.Move(s, f))
	}
	return l
}

// edge returns the edge of the texts of its ends.
func edge(from, to string) [2]api.Vec { return [2]api.Vec{vec(from), vec(to)} }

// source makes arguments, the same ones in each run.
type source struct{ *rand.Rand }

func newSource(seed int64) source { return source{rand.New(rand.NewSource(seed))} }

// from returns a number from a least to a most one.
func (s source) from(least, most int) int { return least + s.Intn(most-least+1) }

// rat returns a number from one integer to another one, sometimes with a small denominator.
func (s source) rat(from, to int) api.Rat {
	den := []int{1, 1, 1, 2, 3}[s.Intn(5)]
	return quotient(s.from(from*den, to*den), den)
}

func (s source) vec(from, to int) api.Vec {
	return api.Vec{s.rat(from, to), s.rat(from, to), s.rat(from, to)}
}

// choice returns one of several texts.
func (s source) choice(texts ...string) string { return texts[s.Intn(len(texts))] }

// half returns a half-space whose plane leads through points near the origin.
func (s source) half() api.Half {
	for {
		n := api.Vec{integer(s.from(-2, 2)), integer(s.from(-2, 2)), integer(s.from(-2, 2))}
		if s.Intn(2) == 0 {
			n[s.Intn(3)], n[s.Intn(3)] = "0", "0"
		}
		if h, e := space.MakeHalf(n, s.rat(-2, 4)); e == api.OK {
			return h
		}
	}
}

// view returns a view, often along an axis or a diagonal.
func (s source) view() api.View {
	v := api.View{Origin: s.vec(-2, 2)}
	axes := strings.Split(s.choice("1 0 0|0 0 1", "0 1 0|0 0 1", "1 0 0|0 1 0", "0 -2 0|0 0 1/3", "1 -1 0|1 1 2", "1 -1 0|0 0 1",
		"1 1 0|0 0 -1", "0 1 -1|1 0 0", "3 4 0|-4 3 0", "2 1 0|-1 2 3", "1 2 2|2 1 -2", "3 -1 0|1 3 7"), "|")
	v.Right, v.Up = vec(axes[0]), vec(axes[1])
	if s.Intn(3) == 0 {
		for {
			right, other := s.vec(-2, 2), s.vec(-2, 2)
			v.Right, v.Up = right, sure(space.Cross(right, other))
			if draw.CheckView(v) == api.OK {
				break
			}
		}
	}
	return v
}

// cubes returns some of the cubes of a grid: they have all kinds of edges in common.
func (s source) cubes() api.Solid {
	at := [3]int{s.from(-1, 2), s.from(-1, 2), s.from(-1, 2)}
	var all api.Solid
	for i := range 8 {
		low := api.Vec{integer(at[0] + i%2), integer(at[1] + i/2%2), integer(at[2] + i/4)}
		if s.Intn(2) == 0 {
			all = append(all, sure(solid.Box(plain(low), vec("1 1 1"))))
		}
	}
	return all
}

// box returns a box near the origin, sometimes one that is turned.
func (s source) box() api.Body {
	f := plain(vec("0 0 0"))
	switch s.Intn(5) {
	case 0:
		f.X, f.Y = vec("3/5 4/5 0"), vec("-4/5 3/5 0")
	case 1:
		f.X, f.Z = vec("3/5 0 4/5"), vec("-4/5 0 3/5")
	case 2:
		f.X, f.Y = vec("1 1 0"), vec("-1 1 0")
	}
	f.Origin = api.Vec{s.rat(-2, 3), s.rat(-2, 3), s.rat(-2, 3)}
	return sure(solid.Box(f, api.Vec{integer(s.from(1, 4)), integer(s.from(1, 2)), s.rat(1, 3)}))
}

// body returns a box, or the hull of some points.
func (s source) body() api.Body {
	if s.Intn(2) == 0 {
		return s.box()
	}
	for {
		points := make([]api.Vec, s.from(4, 6))
		for i := range points {
			points[i] = api.Vec{integer(s.from(-2, 3)), integer(s.from(-2, 3)), integer(s.from(-2, 3))}
		}
		if b, e := solid.Hull(points); e == api.OK {
			return b
		}
	}
}

// solid returns a solid: cubes of a grid, or a body that is divided, or with which another one is united.
func (s source) solid() api.Solid {
	switch s.Intn(4) {
	case 0:
		return s.cubes()
	case 1:
		return divided(api.Solid{s.body()}, s.half())
	case 2:
		return sure(solid.Minus(api.Solid{s.body()}, api.Solid{s.body()}))
	}
	return api.Solid{s.body()}
}

// solids returns so many solids at most.
func (s source) solids(most int) []api.Solid {
	l := make([]api.Solid, s.from(1, most))
	for i := range l {
		l[i] = s.solid()
	}
	return l
}
