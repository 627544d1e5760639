package roof_test

import (
	"math/big"
	"math/rand"
	"reflect"
	"slices"
	"strconv"
	"strings"
	"testing"

	"trunnel/api"
	"trunnel/space"
)

// want reports a result or an error that is not the wanted one; empty lists are equal.
func want[T any](t *testing.T, what string, got T, e api.Errno, wanted T, wantedErr api.Errno) {
	t.Helper()
	empty := func(x T) bool { v := reflect.ValueOf(x); return v.Kind() == reflect.Slice && v.Len() == 0 }
	if e != wantedErr || !reflect.DeepEqual(got, wanted) && !(empty(got) && empty(wanted)) {
		t.Errorf("%s: got %v, error %d; want %v, error %d", what, got, e, wanted, wantedErr)
	}
}

// wantError reports an error that is not the wanted one.
func wantError(t *testing.T, what string, e, wanted api.Errno) {
	t.Helper()
	want(t, what, 0, e, 0, wanted)
}

// sure returns the result of a function that has no error here.
func sure[T any](result T, e api.Errno) T {
	if e != api.OK {
		panic("error " + strconv.Itoa(int(e)))
	}
	return result
}

// both returns two results of the same type as one.
func both[T any](a, b T, e api.Errno) ([2]T, api.Errno) { return [2]T{a, b}, e }

func integer(i int) api.Rat { return api.Rat(strconv.Itoa(i)) }

func nines(n int) api.Rat { return api.Rat(strings.Repeat("9", n)) }

// power returns 10 to the power of n.
func power(n int) api.Rat { return api.Rat("1" + strings.Repeat("0", n)) }

func half(a, b, c int, d api.Rat) api.Half { return api.Half{N: [3]int{a, b, c}, D: d} }

func vec(a, b, c api.Rat) api.Vec { return api.Vec{a, b, c} }

// rectangle returns a wing with sides along the axes: the first one leads along x, with the least y.
func rectangle(x0, y0, x1, y1, height api.Rat, slopes ...api.Rat) api.Wing {
	return api.Wing{Corners: [][2]api.Rat{{x0, y0}, {x1, y0}, {x1, y1}, {x0, y1}}, Height: height, Slopes: slopes}
}

// house returns the wing of the examples, gabled that of example 5.
func house() api.Wing { return rectangle("0", "0", "8", "6", "2", "1", "1", "1", "1") }

func gabled() api.Wing { return rectangle("0", "0", "8", "6", "2", "1", "", "1", "") }

// across returns a wing that crosses the one of example 5, as high as this, but for its height.
func across(height api.Rat) api.Wing {
	return rectangle("1", "-6", "7", "6", height, "", "1", "", "1")
}

// round returns a wing with twelve sides of the length 5 or, if they are parallel to an axis, 1.
func round(slopes ...api.Rat) api.Wing {
	x, y := 0, 0
	w := api.Wing{Height: "0", Slopes: slopes}
	for _, way := range [][2]int{{1, 0}, {4, 3}, {3, 4}, {0, 1}, {-3, 4}, {-4, 3}, {-1, 0}, {-4, -3}, {-3, -4}, {0, -1}, {3, -4}, {4, -3}} {
		w.Corners = append(w.Corners, [2]api.Rat{integer(x), integer(y)})
		x, y = x+way[0], y+way[1]
	}
	return w
}

// shifted returns a wing with something added to all its x.
func shifted(w api.Wing, x api.Rat) api.Wing {
	w.Corners = slices.Clone(w.Corners)
	for i := range w.Corners {
		w.Corners[i][0] = sure(space.Add(w.Corners[i][0], x))
	}
	return w
}

// source makes arguments, the same ones in each run.
type source struct{ *rand.Rand }

func newSource(seed int64) source { return source{rand.New(rand.NewSource(seed))} }

// rat returns a number from one integer to another one, with a small denominator.
func (s source) rat(from, to int) api.Rat {
	den := []int{1, 1, 2, 3}[s.Intn(4)]
	return sure(space.Of(from*den+s.Intn((to-from)*den+1), den))
}

// wing returns a wing round the origin: a rectangle with up to four corners cut off.
func (s source) wing() api.Wing {
	for {
		x, y := s.rat(-4, 0), s.rat(-4, 0)
		r := modelOf(rectangle(x, y, sure(space.Add(x, s.rat(3, 8))), sure(space.Add(y, s.rat(3, 8))), "0", "1", "1", "1", "1"))
		for range s.Intn(5) {
			r.corners = s.trimmed(r.corners)
		}
		w := api.Wing{Height: s.rat(-1, 3)}
		for _, p := range r.corners {
			w.Corners = append(w.Corners, [2]api.Rat{ratOf(p[0]), ratOf(p[1])})
		}
		if s.addSlopes(&w, r.corners) {
			return w
		}
	}
}

// trimmed returns a convex polygon without what is beyond a line.
func (s source) trimmed(corners []place) []place {
	normals := [][2]int64{{3, 4}, {-3, 4}, {4, -3}, {-4, -3}, {5, 12}, {-12, 5}, {1, 1}, {-1, 2}, {1, 0}}
	n := normals[s.Intn(len(normals))]
	f := field{frac(n[0], 1), frac(n[1], 1), new(big.Rat)}
	compare := func(p, q place) int { return f.at(p).Cmp(f.at(q)) }
	low, high := f.at(slices.MinFunc(corners, compare)), f.at(slices.MaxFunc(corners, compare))
	f.c = sub(mul(sub(low, high), frac(int64(4+s.Intn(4)), 8)), low)
	var left []place
	for i, p := range corners {
		q := corners[(i+1)%len(corners)]
		if f.at(p).Sign() <= 0 {
			left = append(left, p)
		}
		if f.at(p).Sign()*f.at(q).Sign() < 0 {
			share := quo(f.at(p), sub(f.at(p), f.at(q)))
			left = append(left, place{add(p[0], mul(share, sub(q[0], p[0]))), add(p[1], mul(share, sub(q[1], p[1])))})
		}
	}
	return left
}

// addSlopes adds slopes to a wing, where sides may have some, and reports whether it has one then.
func (s source) addSlopes(w *api.Wing, corners []place) bool {
	same, found := s.Intn(3) == 0, false
	for i, p := range corners {
		q := corners[(i+1)%len(corners)]
		_, ok := rootOf(add(square(sub(q[0], p[0])), square(sub(q[1], p[1]))))
		slope := []api.Rat{"1", "1", "1/2", "2", "3/4", "5/3"}[s.Intn(6)]
		switch {
		case !ok || s.Intn(5) == 0:
			slope = ""
		case same:
			slope, found = "1", true
		default:
			found = true
		}
		w.Slopes = append(w.Slopes, slope)
	}
	return found
}

// place is a point in plan.
type place [2]*big.Rat

// compare compares places by their x, then by their y.
func (p place) compare(q place) int {
	if c := p[0].Cmp(q[0]); c != 0 {
		return c
	}
	return p[1].Cmp(q[1])
}

// field is a linear function of places: a x + b y + c.
type field struct{ a, b, c *big.Rat }

func (f field) at(p place) *big.Rat { return add(add(mul(f.a, p[0]), mul(f.b, p[1])), f.c) }

func (f field) minus(g field) field { return field{sub(f.a, g.a), sub(f.b, g.b), sub(f.c, g.c)} }

// crossing returns the place where two fields are 0, and whether there is just one.
func (f field) crossing(g field) (place, bool) {
	det := sub(mul(f.a, g.b), mul(f.b, g.a))
	if det.Sign() == 0 {
		return place{}, false
	}
	return place{quo(sub(mul(f.b, g.c), mul(f.c, g.b)), det), quo(sub(mul(f.c, g.a), mul(f.a, g.c)), det)}, true
}

// model is what the chapter's definitions make of a wing, in numbers of package big.
type model struct {
	corners []place
	inside  []field       // of each side: above 0 on its left
	planes  map[int]field // of each side with a slope: the height of its plane
}

func modelOf(w api.Wing) model {
	m := model{planes: map[int]field{}}
	for _, p := range w.Corners {
		m.corners = append(m.corners, place{bigOf(p[0]), bigOf(p[1])})
	}
	for i, p := range m.corners {
		q := m.corners[(i+1)%len(m.corners)]
		f := field{sub(p[1], q[1]), sub(q[0], p[0]), new(big.Rat)}
		f.c = sub(f.c, f.at(p))
		m.inside = append(m.inside, f)
		if w.Slopes[i] != "" {
			length, _ := rootOf(add(square(f.a), square(f.b)))
			rise := quo(bigOf(w.Slopes[i]), length)
			m.planes[i] = field{mul(rise, f.a), mul(rise, f.b), add(bigOf(w.Height), mul(rise, f.c))}
		}
	}
	return m
}

// covers reports whether a place is in the polygon.
func (m model) covers(p place) bool {
	return !slices.ContainsFunc(m.inside, func(f field) bool { return f.at(p).Sign() < 0 })
}

// height returns the height of the wing at a place, and the first side whose plane has it.
func (m model) height(p place) (*big.Rat, int) {
	var least *big.Rat
	first := 0
	for i := range m.inside {
		if f, ok := m.planes[i]; ok && (least == nil || f.at(p).Cmp(least) < 0) {
			least, first = f.at(p), i
		}
	}
	return least, first
}

// faces reports whether a place is in the facet of a side.
func (m model) faces(side int, p place) bool {
	least, _ := m.height(p)
	return m.covers(p) && m.planes[side].at(p).Cmp(least) == 0
}

// area returns the area of a polygon.
func area(corners []place) *big.Rat {
	sum := new(big.Rat)
	for i, p := range corners {
		q := corners[(i+1)%len(corners)]
		sum = add(sum, sub(mul(p[0], q[1]), mul(p[1], q[0])))
	}
	return quo(sum, frac(2, 1))
}

// inside returns a place in the polygon, mostly on a line where the heights of two planes are the same.
func (s source) inside(m model) place {
	for {
		p := place{bigOf(s.rat(-4, 8)), bigOf(s.rat(-4, 8))}
		if s.Intn(2) == 0 {
			p = m.corners[s.Intn(len(m.corners))]
			q := m.corners[s.Intn(len(m.corners))]
			share := frac(int64(s.Intn(5)), 4)
			p = place{add(p[0], mul(share, sub(q[0], p[0]))), add(p[1], mul(share, sub(q[1], p[1])))}
		}
		if m.covers(p) {
			return p
		}
	}
}

func frac(num, den int64) *big.Rat { return big.NewRat(num, den) }

func add(a, b *big.Rat) *big.Rat { return new(big.Rat).Add(a, b) }

func sub(a, b *big.Rat) *big.Rat { return new(big.Rat).Sub(a, b) }

func mul(a, b *big.Rat) *big.Rat { return new(big.Rat).Mul(a, b) }

func quo(a, b *big.Rat) *big.Rat { return new(big.Rat).Quo(a, b) }

func square(a *big.Rat) *big.Rat { return mul(a, a) }

// rootOf returns the square root of a number, and whether it is rational.
func rootOf(a *big.Rat) (*big.Rat, bool) {
	root := new(big.Rat).SetFrac(new(big.Int).Sqrt(a.Num()), new(big.Int).Sqrt(a.Denom()))
	return root, square(root).Cmp(a) == 0
}

// bigOf returns the number of a text, ratOf the text of a number.
func bigOf(a api.Rat) *big.Rat {
	x, ok := new(big.Rat).SetString(string(a))
	if !ok {
		panic("no number: " + string(a))
	}
	return x
}

func ratOf(a *big.Rat) api.Rat { return api.Rat(a.RatString()) }

func rats(p place) [2]api.Rat { return [2]api.Rat{ratOf(p[0]), ratOf(p[1])} }
