package solid_test

import (
	"math/rand"
	"reflect"
	"slices"
	"strconv"
	"strings"
	"testing"

	"trunnel/api"
	"trunnel/solid"
	"trunnel/space"
)

// The tests compute what they expect from the definitions of the chapter, with the functions of package space.

// want reports a result or an error that is not the wanted one; empty lists are equal.
func want[T any](t *testing.T, what string, got T, e api.Errno, wanted T, wantedErr api.Errno) {
	t.Helper()
	empty := func(x T) bool { v := reflect.ValueOf(x); return v.Kind() == reflect.Slice && v.Len() == 0 }
	if e != wantedErr || !reflect.DeepEqual(got, wanted) && !(empty(got) && empty(wanted)) {
		t.Errorf("%s: got %v, error %d; want %v, error %d", what, got, e, wanted, wantedErr)
	}
}

// wantError reports an error that is not the wanted one.
func wantError(t *testing.T, what string, e, wanted api.Errno) {
	t.Helper()
	want(t, what, 0, e, 0, wanted)
}

// must returns a result, which has to have no error.
func must[T any](t *testing.T) func(result T, e api.Errno) T {
	return func(result T, e api.Errno) T {
		t.Helper()
		if e != api.OK {
			t.Fatalf("error %d", e)
		}
		return result
	}
}

// sure returns a result of package space, or of another function that has no error here.
func sure[T any](result T, e api.Errno) T {
	if e != api.OK {
		panic("error " + strconv.Itoa(int(e)))
	}
	return result
}

func integer(i int) api.Rat { return api.Rat(strconv.Itoa(i)) }

func digits(n int) api.Rat { return api.Rat(strings.Repeat("7", n)) }

func half(a, b, c int, d api.Rat) api.Half { return api.Half{N: [3]int{a, b, c}, D: d} }

// block returns the box with the edges along the axes from one corner to another one.
func block(x0, y0, z0, x1, y1, z1 int) api.Body {
	return api.Body{
		half(-1, 0, 0, integer(-x0)), half(0, -1, 0, integer(-y0)), half(0, 0, -1, integer(-z0)),
		half(0, 0, 1, integer(z1)), half(0, 1, 0, integer(y1)), half(1, 0, 0, integer(x1)),
	}
}

// simplex returns the body between the planes of the axes and that of the points at the distance d.
func simplex(d api.Rat) api.Body {
	return api.Body{half(-1, 0, 0, "0"), half(0, -1, 0, "0"), half(0, 0, -1, "0"), half(1, 1, 1, d)}
}

// plain returns the frame of space with another origin.
func plain(origin api.Vec) api.Frame {
	return api.Frame{Origin: origin, X: api.Vec{"1", "0", "0"}, Y: api.Vec{"0", "1", "0"}, Z: api.Vec{"0", "0", "1"}}
}

func origin() api.Vec { return api.Vec{"0", "0", "0"} }

// column returns a prism round the circle with a radius and the axis z, with so many sides, from z = 0 to z = 1.
func column(sides int, radius api.Rat) api.Body {
	b := api.Body{half(0, 0, -1, "0"), half(0, 0, 1, "1")}
	seen := map[[3]int]bool{}
	for m := 1; len(b) < sides+2; m++ {
		for n := range m + 1 {
			for _, x := range [][2]int{{m*m - n*n, 2 * m * n}, {n*n - m*m, -2 * m * n}, {-2 * m * n, m*m - n*n}, {2 * m * n, n*n - m*m}} {
				normal := api.Vec{integer(x[0]), integer(x[1]), "0"}
				if x == [2]int{} || len(b) == sides+2 {
					continue
				}
				h := sure(space.MakeHalf(normal, sure(space.Mul(radius, integer(m*m+n*n)))))
				if !seen[h.N] {
					seen[h.N] = true
					b = append(b, h)
				}
			}
		}
	}
	slices.SortFunc(b, func(h, g api.Half) int { return slices.Compare(h.N[:], g.N[:]) })
	return b
}

// source makes arguments, the same ones in each run.
type source struct{ *rand.Rand }

func newSource(seed int64) source { return source{rand.New(rand.NewSource(seed))} }

// rat returns a number with an absolute value of at most so much, sometimes not an integer.
func (s source) rat(most int) api.Rat {
	den := 1
	if s.Intn(3) == 0 {
		den = 2 + s.Intn(3)
	}
	return sure(space.Of(s.Intn(2*most*den+1)-most*den, den))
}

func (s source) vec(most int) api.Vec { return api.Vec{s.rat(most), s.rat(most), s.rat(most)} }

// frame returns a turned and stretched frame.
func (s source) frame() api.Frame {
	for {
		f, e := space.Turn([4]api.Rat{integer(s.Intn(4)), integer(s.Intn(4) - 1), integer(s.Intn(4) - 1), integer(s.Intn(4) - 1)})
		if e != api.OK {
			continue
		}
		f.X, f.Y = sure(space.Scale(integer(1+s.Intn(2)), f.X)), sure(space.Scale(integer(1+s.Intn(2)), f.Y))
		f.Origin = s.vec(2)
		return f
	}
}

// similar returns a turned frame with axes of the same length.
func (s source) similar() api.Frame {
	f := s.frame()
	f.Y = sure(space.Cross(f.Z, f.X))
	c := sure(space.Div("1", sure(space.Square(f.Z))))
	f.Y = sure(space.Scale(c, f.Y))
	f.Z = sure(space.Cross(f.X, f.Y))
	x := sure(space.Square(f.X))
	if x == "4" {
		f.Z = sure(space.Scale("1/2", f.Z))
	}
	return f
}

// body returns a body of any shape near the origin: a box in a frame, a hull, or a part of them.
func (s source) body() api.Body {
	for {
		var b api.Body
		var e api.Errno
		switch s.Intn(4) {
		case 0:
			b, e = solid.Box(s.frame(), api.Vec{integer(1 + s.Intn(3)), integer(1 + s.Intn(3)), "3/2"})
		case 1:
			b = block(-s.Intn(3), -s.Intn(3), -s.Intn(3), 1+s.Intn(3), 1+s.Intn(3), 1+s.Intn(3))
		case 2:
			points := make([]api.Vec, 4+s.Intn(3))
			for i := range points {
				points[i] = api.Vec{integer(s.Intn(7) - 3), integer(s.Intn(7) - 3), integer(s.Intn(7) - 3)}
			}
			b, e = solid.Hull(points)
		case 3:
			var cut api.Solid
			cut, e = solid.Cut(api.Solid{block(-2, -2, -2, 2, 2, 2)}, s.half())
			if len(cut) > 0 {
				b = cut[0]
			}
		}
		if e == api.OK && len(b) > 0 {
			return b
		}
	}
}

// half returns a half-space near the origin.
func (s source) half() api.Half {
	for {
		if h, e := space.MakeHalf(api.Vec{integer(s.Intn(5) - 2), integer(s.Intn(5) - 2), integer(s.Intn(5) - 2)}, s.rat(3)); e == api.OK {
			return h
		}
	}
}

// solid returns a solid of a few bodies.
func (s source) solid(most int) api.Solid {
	var all api.Solid
	for range 1 + s.Intn(most) {
		if u, e := solid.Union(all, api.Solid{s.body()}); e == api.OK {
			all = u
		}
	}
	return all
}
