package space

import (
	"math"
	"reflect"
	"strings"
	"testing"

	"trunnel/api"
)

// P1, and the order of errors of P1.1 to P1.4.

// call is a function whose arguments are made of numbers, in their order. kinds tells them: r is a number, v a vector,
// h a half-space (the number is its D, and its N is fine), f a frame, q a quaternion. values are such numbers without an error.
type call struct {
	name, kinds string
	run         func(a arguments) (any, api.Errno)
}

// arguments takes numbers one by one.
type arguments struct{ left *[]api.Rat }

func (a arguments) rat() api.Rat {
	x := (*a.left)[0]
	*a.left = (*a.left)[1:]
	return x
}

func (a arguments) vec() api.Vec { return api.Vec{a.rat(), a.rat(), a.rat()} }

func (a arguments) half() api.Half { return api.Half{N: [3]int{1, -2, 2}, D: a.rat()} }

func (a arguments) frame() api.Frame {
	return api.Frame{Origin: a.vec(), X: a.vec(), Y: a.vec(), Z: a.vec()}
}

// values returns numbers without an error for the arguments of a call.
func (c call) values() []api.Rat {
	var values []api.Rat
	for i, kind := range c.kinds {
		digit := api.Rat(rune('1' + i))
		switch kind {
		case 'r', 'h':
			values = append(values, digit)
		case 'v':
			values = append(values, digit, "-2", "2/3")
		case 'f':
			values = append(values, digit, "0", "-1/2", "3", "4", "0", "-4", "3", "0", "0", "0", "5")
		case 'q':
			values = append(values, "1", "1/2", "0", digit)
		}
	}
	return values
}

// pack makes a result one with any type.
func pack[T any](result T, e api.Errno) (any, api.Errno) { return result, e }

// calls returns all functions that may have an error of a number.
func calls() []call {
	return []call{
		{"Check", "r", func(a arguments) (any, api.Errno) { return 0, Check(a.rat()) }},
		{"Add", "rr", func(a arguments) (any, api.Errno) { return pack(Add(a.rat(), a.rat())) }},
		{"Sub", "rr", func(a arguments) (any, api.Errno) { return pack(Sub(a.rat(), a.rat())) }},
		{"Mul", "rr", func(a arguments) (any, api.Errno) { return pack(Mul(a.rat(), a.rat())) }},
		{"Div", "rr", func(a arguments) (any, api.Errno) { return pack(Div(a.rat(), a.rat())) }},
		{"Compare", "rr", func(a arguments) (any, api.Errno) { return pack(Compare(a.rat(), a.rat())) }},
		{"Floor", "r", func(a arguments) (any, api.Errno) { return pack(Floor(a.rat())) }},
		{"CheckVec", "v", func(a arguments) (any, api.Errno) { return 0, CheckVec(a.vec()) }},
		{"AddVec", "vv", func(a arguments) (any, api.Errno) { return pack(AddVec(a.vec(), a.vec())) }},
		{"SubVec", "vv", func(a arguments) (any, api.Errno) { return pack(SubVec(a.vec(), a.vec())) }},
		{"Scale", "rv", func(a arguments) (any, api.Errno) { return pack(Scale(a.rat(), a.vec())) }},
		{"Dot", "vv", func(a arguments) (any, api.Errno) { return pack(Dot(a.vec(), a.vec())) }},
		{"Cross", "vv", func(a arguments) (any, api.Errno) { return pack(Cross(a.vec(), a.vec())) }},
		{"Square", "v", func(a arguments) (any, api.Errno) { return pack(Square(a.vec())) }},
		{"Along", "vv", func(a arguments) (any, api.Errno) { return pack(Along(a.vec(), a.vec())) }},
		{"CheckHalf", "h", func(a arguments) (any, api.Errno) { return 0, CheckHalf(a.half()) }},
		{"MakeHalf", "vr", func(a arguments) (any, api.Errno) { return pack(MakeHalf(a.vec(), a.rat())) }},
		{"Opposite", "h", func(a arguments) (any, api.Errno) { return pack(Opposite(a.half())) }},
		{"Side", "hv", func(a arguments) (any, api.Errno) { return pack(Side(a.half(), a.vec())) }},
		{"Through", "vvv", func(a arguments) (any, api.Errno) { return pack(Through(a.vec(), a.vec(), a.vec())) }},
		{"Crossing", "hhh", func(a arguments) (any, api.Errno) { return pack(Crossing(a.half(), a.half(), a.half())) }},
		{"Meet", "hvv", func(a arguments) (any, api.Errno) { return pack(Meet(a.half(), a.vec(), a.vec())) }},
		{"Project", "hv", func(a arguments) (any, api.Errno) { return pack(Project(a.half(), a.vec())) }},
		{"Distance", "hv", func(a arguments) (any, api.Errno) { return pack(Distance(a.half(), a.vec())) }},
		{"Mirror", "hv", func(a arguments) (any, api.Errno) { return pack(Mirror(a.half(), a.vec())) }},
		{"CheckFrame", "f", func(a arguments) (any, api.Errno) { return 0, CheckFrame(a.frame()) }},
		{"Place", "fv", func(a arguments) (any, api.Errno) { return pack(Place(a.frame(), a.vec())) }},
		{"Local", "fv", func(a arguments) (any, api.Errno) { return pack(Local(a.frame(), a.vec())) }},
		{"PlaceHalf", "fh", func(a arguments) (any, api.Errno) { return pack(PlaceHalf(a.frame(), a.half())) }},
		{"LocalHalf", "fh", func(a arguments) (any, api.Errno) { return pack(LocalHalf(a.frame(), a.half())) }},
		{"Compose", "ff", func(a arguments) (any, api.Errno) { return pack(Compose(a.frame(), a.frame())) }},
		{"Inverse", "f", func(a arguments) (any, api.Errno) { return pack(Inverse(a.frame())) }},
		{"Turn", "q", func(a arguments) (any, api.Errno) {
			return pack(Turn([4]api.Rat{a.rat(), a.rat(), a.rat(), a.rat()}))
		}},
		{"Shift", "fv", func(a arguments) (any, api.Errno) { return pack(Shift(a.frame(), a.vec())) }},
		{"Stretch", "f", func(a arguments) (any, api.Errno) { return pack(Stretch(a.frame())) }},
	}
}

// wantCall runs a call and reports an error that is not the wanted one, and a result beside an error.
func wantCall(t *testing.T, c call, values []api.Rat, wanted api.Errno) {
	t.Helper()
	left := values
	got, e := c.run(arguments{&left})
	if e != wanted {
		t.Errorf("%s of %q: error %d, want %d", c.name, values, e, wanted)
	}
	if e != api.OK && !reflect.ValueOf(got).IsZero() {
		t.Errorf("%s of %q: error %d with the result %v", c.name, values, e, got)
	}
}

// TestFirstError puts numbers with errors into each place: the first one decides, whatever is behind it.
func TestFirstError(t *testing.T) {
	large := api.Rat(nines(601))
	for _, c := range calls() {
		fine := c.values()
		switch c.name {
		case "Along", "Through", "Crossing": // other directions, points on a line, parallel planes
			wantCall(t, c, fine, api.ErrNone)
		default:
			wantCall(t, c, fine, api.OK)
		}
		for i := range fine {
			for _, bad := range []struct {
				a api.Rat
				e api.Errno
			}{{"", api.ErrForm}, {"-0", api.ErrForm}, {"2/4", api.ErrForm}, {"0/" + large, api.ErrLarge}, {"-" + large, api.ErrLarge}} {
				values := append([]api.Rat{}, fine...)
				values[i] = bad.a
				wantCall(t, c, values, bad.e)
				for j := i + 1; j < len(values); j++ {
					values[j] = []api.Rat{"x", "1/0", large, "0"}[j%4]
				}
				wantCall(t, c, values, bad.e)
			}
		}
	}
}

// TestErrorsOfArgumentsComeFirst has arguments with their own errors ahead of bad numbers, and behind them.
func TestErrorsOfArgumentsComeFirst(t *testing.T) {
	zero, bad, flat := api.Vec{"0", "0", "0"}, api.Vec{"0", "0", "x"}, api.Half{D: "1"}
	long, double := api.Half{N: [3]int{top + 1, 0, 0}, D: "1"}, api.Half{N: [3]int{2, 0, 0}, D: "1"}
	skew, null := example(), example()
	skew.X, null.Y = api.Vec{"3", "5", "0"}, zero
	for i, row := range []struct{ got, wanted api.Errno }{
		{second(Div("x", "0")), api.ErrForm}, {second(Div("1", "0")), api.ErrZero},
		{second(Along(zero, bad)), api.ErrForm}, {second(Along(zero, zero)), api.ErrZero},
		{second(MakeHalf(zero, "")), api.ErrForm}, {second(MakeHalf(zero, "1")), api.ErrZero},
		{second(Side(flat, bad)), api.ErrZero}, {second(Side(long, bad)), api.ErrRange}, {second(Side(double, bad)), api.ErrForm},
		{second(Through(zero, zero, bad)), api.ErrForm}, {second(Through(zero, zero, zero)), api.ErrNone},
		{second(Crossing(flat, long, double)), api.ErrZero}, {second(Crossing(long, flat, double)), api.ErrRange},
		{second(Crossing(api.Half{N: [3]int{1, 0, 0}, D: "1"}, long, flat)), api.ErrRange},
		{second(Meet(long, bad, bad)), api.ErrRange}, {second(Meet(double, zero, zero)), api.ErrForm},
		{second(Project(flat, bad)), api.ErrZero}, {second(Distance(long, bad)), api.ErrRange}, {second(Mirror(long, bad)), api.ErrRange},
		{second(Place(skew, bad)), api.ErrFrame}, {second(Local(null, bad)), api.ErrZero}, {second(Shift(skew, bad)), api.ErrFrame},
		{second(PlaceHalf(skew, flat)), api.ErrFrame}, {second(LocalHalf(example(), long)), api.ErrRange},
		{second(PlaceHalf(example(), flat)), api.ErrZero}, {second(LocalHalf(null, long)), api.ErrZero},
		{second(Compose(skew, null)), api.ErrFrame}, {second(Compose(null, skew)), api.ErrZero}, {second(Compose(example(), null)), api.ErrZero},
		{second(Turn([4]api.Rat{"0", "0", "0", "1/1"})), api.ErrForm}, {second(Turn([4]api.Rat{})), api.ErrForm},
	} {
		if row.got != row.wanted {
			t.Errorf("row %d: error %d, want %d", i, row.got, row.wanted)
		}
	}
}

// second returns the error of a function.
func second[T any](_ T, e api.Errno) api.Errno { return e }

// TestAnyArguments calls all functions with texts of all kinds: none of them panics, or answers twice in different ways.
func TestAnyArguments(t *testing.T) {
	texts := []api.Rat{"", "-", "/", "0", "-0", "00", "0/0", "1/0", "0/1", "1/1", "-1", "1", "2", "-3", "1/2", "-2/3", "4/6", "1.5", "x", "\xff\xfe", "\x00", "١", "- 1", "1/-1", "1/2/3",
		api.Rat(nines(600)), api.Rat(nines(601)), api.Rat("-1/" + nines(600)), api.Rat(strings.Repeat("1", 600) + "/" + nines(599)), api.Rat("1/" + zeros(5000)), api.Rat(strings.Repeat("-", 5000))}
	s := newSource(24)
	for _, c := range calls() {
		for range 300 {
			values := c.values()
			for i := range values {
				if s.Intn(3) == 0 {
					values[i] = texts[s.Intn(len(texts))]
				}
			}
			first, again := values, values
			got, e := c.run(arguments{&first})
			more, e2 := c.run(arguments{&again})
			if got != more || e != e2 {
				t.Errorf("%s of %q: got %v, error %d, and then %v, error %d", c.name, values, got, e, more, e2)
			}
			if e != api.OK && !reflect.ValueOf(got).IsZero() {
				t.Errorf("%s of %q: error %d with the result %v", c.name, values, e, got)
			}
		}
	}
	for _, text := range texts {
		IsName(string(text))
		Parse(string(text))
	}
	for _, n := range [][3]int{{}, {math.MinInt, math.MinInt, math.MinInt}, {math.MaxInt, 0, -1}, {top, top, top}, {-1, 0, 0}, {top, top - 1, 0}} {
		h, p := api.Half{N: n, D: "1/3"}, api.Vec{"1", "-2/3", "5"}
		fine := CheckHalf(h)
		for i, e := range []api.Errno{second(Opposite(h)), second(Side(h, p)), second(Project(h, p)), second(Distance(h, p)), second(Mirror(h, p)), second(LocalHalf(plain(), h)), second(PlaceHalf(plain(), h))} {
			if e != fine {
				t.Errorf("function %d of %v: error %d, want %d", i, n, e, fine)
			}
		}
	}
}
