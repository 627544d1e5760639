package space

import (
	"testing"

	"trunnel/api"
)

// P1.5. These tests use the exported functions alone.

// must returns a result, which has no error.
func must[T any](t *testing.T) func(result T, e api.Errno) T {
	return func(result T, e api.Errno) T {
		t.Helper()
		if e != api.OK {
			t.Errorf("error %d", e)
		}
		return result
	}
}

func TestSquaresOfProducts(t *testing.T) {
	s, rat, vec := newSource(17), must[api.Rat](t), must[api.Vec](t)
	for i := range 500 {
		a, b := s.vec(1+i%30), s.vec(1+i%30)
		cross, dot := rat(Square(vec(Cross(a, b)))), rat(Dot(a, b))
		got := rat(Add(cross, rat(Mul(dot, dot))))
		if wanted := rat(Mul(rat(Square(a)), rat(Square(b)))); got != wanted {
			t.Errorf("%v and %v: got %v, want %v", a, b, got, wanted)
		}
	}
}

func TestCrossingIsOnThePlanes(t *testing.T) {
	s, side := newSource(18), must[int](t)
	for i := range 500 {
		planes := [3]api.Half{s.half(1 + i%20), s.half(1 + i%20), s.half(1 + i%20)}
		p, e := Crossing(planes[0], planes[1], planes[2])
		if e == api.ErrNone {
			continue
		}
		for _, h := range planes {
			if side(Side(h, p)) != 0 {
				t.Errorf("the crossing %v of %v is not on %v", p, planes, h)
			}
		}
	}
}

func TestFootIsNearest(t *testing.T) {
	s, rat, vec, number := newSource(19), must[api.Rat](t), must[api.Vec](t), must[int](t)
	for i := range 500 {
		h, p := s.half(1+i%10), s.vec(1+i%10)
		foot, distance := vec(Project(h, p)), rat(Distance(h, p))
		if number(Side(h, foot)) != 0 {
			t.Errorf("the foot %v of %v is not on %v", foot, p, h)
		}
		if got := rat(Square(vec(SubVec(p, foot)))); got != distance {
			t.Errorf("the foot %v of %v on %v is at %v, want %v", foot, p, h, got, distance)
		}
		other := vec(Project(h, s.vec(1+i%10)))
		if got := rat(Square(vec(SubVec(p, other)))); number(Compare(got, distance)) < 0 {
			t.Errorf("%v of %v is nearer to %v than the foot %v", other, h, p, foot)
		}
		if back := vec(Mirror(h, vec(Mirror(h, p)))); back != p {
			t.Errorf("%v mirrored twice at %v is %v", p, h, back)
		}
	}
}

func TestCoordinatesAndPoints(t *testing.T) {
	s, vec := newSource(20), must[api.Vec](t)
	for i := range 500 {
		f, p := s.frame(1+i%4), s.vec(1+i%10)
		if back := vec(Local(f, vec(Place(f, p)))); back != p {
			t.Errorf("%v placed in %v has the coordinates %v", p, f, back)
		}
		if back := vec(Place(f, vec(Local(f, p)))); back != p {
			t.Errorf("the coordinates of %v in %v belong to %v", p, f, back)
		}
	}
}

func TestHalfSpacesOfCoordinates(t *testing.T) {
	s, vec, side := newSource(21), must[api.Vec](t), must[int](t)
	for i := range 500 {
		f, h, p := s.frame(1), s.half(1+i%3), s.vec(1+i%3)
		if g, e := LocalHalf(f, h); e == api.OK {
			if side(Side(h, p)) != side(Side(g, vec(Local(f, p)))) {
				t.Errorf("%v is on another side of %v than its coordinates in %v", p, h, f)
			}
		}
		if g, e := PlaceHalf(f, h); e == api.OK {
			if side(Side(h, p)) != side(Side(g, vec(Place(f, p)))) {
				t.Errorf("%v placed in %v is on another side of %v than its coordinates", p, f, h)
			}
		}
	}
}

func TestFramesOfFrames(t *testing.T) {
	s, vec, frame := newSource(22), must[api.Vec](t), must[api.Frame](t)
	for i := range 300 {
		f, g, p := s.rotated(2), s.frame(1+i%3), s.vec(1+i%5)
		if got, wanted := vec(Place(frame(Compose(f, g)), p)), vec(Place(f, vec(Place(g, p)))); got != wanted {
			t.Errorf("%v in %v and %v: got %v, want %v", p, f, g, got, wanted)
		}
		inverse := frame(Inverse(f))
		if got := vec(Place(inverse, vec(Place(f, p)))); got != p {
			t.Errorf("%v placed and placed back in %v is %v", p, f, got)
		}
		if got := frame(Compose(inverse, f)); got != plain() {
			t.Errorf("%v and its inverse are %v", f, got)
		}
	}
}

func TestRotationsKeepProducts(t *testing.T) {
	s, rat, vec := newSource(23), must[api.Rat](t), must[api.Vec](t)
	for i := range 300 {
		f, e := Turn([4]api.Rat{s.rat(1 + i%10), s.rat(1 + i%10), s.rat(1 + i%10), s.rat(1 + i%10)})
		if e == api.ErrZero {
			continue
		}
		if got := CheckFrame(f); got != api.OK {
			t.Errorf("CheckFrame of %v: error %d", f, got)
		}
		if got := vec(Stretch(f)); got != (api.Vec{"1", "1", "1"}) {
			t.Errorf("Stretch of %v: got %v", f, got)
		}
		a, b := s.vec(1+i%10), s.vec(1+i%10)
		if got, wanted := rat(Dot(vec(Place(f, a)), vec(Place(f, b)))), rat(Dot(a, b)); got != wanted {
			t.Errorf("%v and %v turned in %v: got %v, want %v", a, b, f, got, wanted)
		}
		if got, wanted := vec(Cross(vec(Place(f, a)), vec(Place(f, b)))), vec(Place(f, vec(Cross(a, b)))); got != wanted {
			t.Errorf("the product of %v and %v turned in %v: got %v, want %v", a, b, f, got, wanted)
		}
	}
}
