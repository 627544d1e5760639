package statics_test

import (
	"math/big"
	"testing"

	"trunnel/api"
	"trunnel/statics"
)

// P7.2 and P7.4

func TestMotionsOfExamples(t *testing.T) {
	l, e := statics.Motions(tripod())
	want(t, "Motions", l, e, nil, api.OK)
	l, e = statics.Motions(hinge())
	want(t, "Motions without a bar", l, e, [][]api.Vec{at("1 0 0")}, api.OK)
	s := tripod()
	s.Bars = nil
	l, e = statics.Motions(s)
	want(t, "Motions without bars", l, e, [][]api.Vec{at("1 0 0"), at("0 1 0")}, api.OK)
	s.Held[2] = held
	l, e = statics.Motions(s)
	want(t, "Motions of held nodes", l, e, nil, api.OK)
}

// TestMotionsOfABar has a bar that is free: it moves to all sides, and turns.
func TestMotionsOfABar(t *testing.T) {
	s := api.Truss{Nodes: vecs("0 0 0, 2 1 0"), Held: make([][3]bool, 2), Bars: bars(0, 1)}
	l, e := statics.Motions(s)
	want(t, "Motions", l, e, [][]api.Vec{
		vecs("1 0 0, 0 2 0"), vecs("0 1 0, 0 1 0"), vecs("0 0 1, 0 0 0"), vecs("0 0 0, 1 -2 0"), vecs("0 0 0, 0 0 1"),
	}, api.OK)
}

func TestIsMotion(t *testing.T) {
	for _, x := range []struct {
		motion []api.Vec
		is     bool
	}{
		{at("1 0 0"), true}, {at("-7/3 0 0"), true}, {at("0 0 0"), true}, // along the free way
		{at("1 1 0"), false}, {at("1 1/999 0"), false}, // against the bar
		{at("0 0 1"), false}, {at("1 0 -1"), false}, {vecs("1 0 0, 0 0 0, 1 0 0"), false}, // in a held coordinate
		{vecs("0 0 0, 0 2 0, 0 0 0"), false}, {vecs("1 0 0, 1 0 0, 1 0 0"), false},
	} {
		is, e := statics.IsMotion(hinge(), x.motion)
		want(t, "IsMotion", is, e, x.is, api.OK)
	}
	is, e := statics.IsMotion(tripod(), at("1 0 0"))
	want(t, "IsMotion with a further bar", is, e, false, api.OK)
	is, e = statics.IsMotion(tripod(), at("0 0 0"))
	want(t, "IsMotion of nothing", is, e, true, api.OK)
}

func TestWork(t *testing.T) {
	for _, x := range []struct {
		loads, motion []api.Vec
		work          api.Rat
		e             api.Errno
	}{
		{at("8 -6 0"), at("1 0 0"), "8", api.OK},
		{at("8 -6 5"), at("-1/3 0 0"), "-8/3", api.OK},
		{vecs("1 2 3, 4 5 6, 0 7 8"), at("1 0 0"), "0", api.OK},
		{at("8 -6 0"), at("0 0 0"), "0", api.OK},
		{at("8 -6 0"), at("0 1 0"), "", api.ErrState},
		{at("8 -6 0"), at("1 0 1"), "", api.ErrState},
		{at("8 0 0"), vecs("0 1 0, 0 0 0, 1 0 0"), "", api.ErrState},
	} {
		w, e := statics.Work(hinge(), x.loads, x.motion)
		want(t, "Work", w, e, x.work, x.e)
		if x.work == "0" {
			x.e = api.ErrProof
		}
		wantError(t, "CheckRefuse", statics.CheckRefuse(hinge(), x.loads, x.motion), x.e)
	}
}

func TestRefuse(t *testing.T) {
	u, e := statics.Refuse(hinge(), at("8 -6 0"))
	want(t, "Refuse", u, e, at("1 0 0"), api.OK)
	u, e = statics.Refuse(hinge(), at("0 -6 9"))
	want(t, "Refuse of loads that are carried", u, e, nil, api.ErrNone)
	u, e = statics.Refuse(tripod(), at("8 -6 0"))
	want(t, "Refuse without motions", u, e, nil, api.ErrNone)
	s := tripod()
	s.Bars = nil
	for _, x := range []struct{ load, motion string }{{"8 -6 0", "1 0 0"}, {"0 -6 0", "0 1 0"}} {
		u, e = statics.Refuse(s, at(x.load))
		want(t, "Refuse without bars", u, e, at(x.motion), api.OK)
	}
}

// TestMotionsAgainstTheirDefinition compares Motions, IsMotion, Work, Refuse and CheckRefuse with what math/big makes of the definitions.
func TestMotionsAgainstTheirDefinition(t *testing.T) {
	s := newSource(2)
	refused, carried := 0, 0
	for range 400 {
		f := s.truss(6)
		l, e := statics.Motions(f)
		if wantError(t, "Motions", e, api.OK); !areMotions(f, l) {
			t.Errorf("Motions of %v: got %v", f, l)
		}
		loads := s.loads(f)
		var first []api.Vec
		for _, motion := range l {
			work := workOf(loads, motion)
			w, e := statics.Work(f, loads, motion)
			want(t, "Work", w, e, text(work), api.OK)
			wanted := api.ErrProof
			if work.Sign() != 0 {
				wanted = api.OK
				if first == nil {
					first = motion
				}
			}
			wantError(t, "CheckRefuse", statics.CheckRefuse(f, loads, motion), wanted)
		}
		u, e := statics.Refuse(f, loads)
		if first == nil {
			carried++
			want(t, "Refuse", u, e, nil, api.ErrNone)
		} else {
			refused++
			want(t, "Refuse", u, e, first, api.OK)
		}
		any := s.someMotion(f, l)
		is, e := statics.IsMotion(f, any)
		want(t, "IsMotion", is, e, isMotion(f, readAll(any)), api.OK)
		if w, e := statics.Work(f, loads, any); is {
			want(t, "Work", w, e, text(workOf(loads, any)), api.OK)
		} else {
			want(t, "Work", w, e, "", api.ErrState)
		}
	}
	if refused < 50 || carried < 50 {
		t.Errorf("%d loads are refused, and %d are not", refused, carried)
	}
}

// areMotions reports whether motions are the reduced basis of all of them.
func areMotions(f api.Truss, motions [][]api.Vec) bool {
	var numbers [][]*big.Rat
	for _, motion := range motions {
		vectors := readAll(motion)
		if !isMotion(f, vectors) {
			return false
		}
		own, _ := freeOf(f, vectors)
		numbers = append(numbers, own)
	}
	m := matrixOf(f)
	return isReduced(numbers) && len(motions) == len(m)-rankOf(m)
}

// someMotion returns a sum of multiples of motions, which is sometimes changed a little.
func (s source) someMotion(f api.Truss, motions [][]api.Vec) []api.Vec {
	sum := make([]vector, len(f.Nodes))
	for i := range sum {
		sum[i] = read(api.Vec{"0", "0", "0"})
	}
	for _, motion := range motions {
		c := rat(s.number())
		for i, v := range readAll(motion) {
			sum[i] = plus(sum[i], times(c, v))
		}
	}
	some := texts(sum)
	if s.Intn(3) == 0 {
		some[s.Intn(len(some))][s.Intn(3)] = s.number()
	}
	return some
}

// TestLargeNumbersOfMotions has numbers that are just too large, and others that are not.
func TestLargeNumbersOfMotions(t *testing.T) {
	s := api.Truss{Nodes: []api.Vec{vec("-1 0 0"), {nines(600), "1", "0"}, vec("5 5 5")}, Held: [][3]bool{held, flat, onLine}, Bars: bars(0, 1)}
	l, e := statics.Motions(s)
	want(t, "Motions", l, e, nil, api.ErrLarge)
	u, e := statics.Refuse(s, vecs("0 0 0, 1 0 0, 0 0 0"))
	want(t, "Refuse on the large motion", u, e, nil, api.ErrLarge)
	u, e = statics.Refuse(s, vecs("0 0 0, 0 0 0, 1 0 0"))
	want(t, "Refuse on the other one", u, e, vecs("0 0 0, 0 0 0, 1 0 0"), api.OK)
	s.Nodes[0][0] = "0"
	motion := []api.Vec{vec("0 0 0"), {"1", "-" + nines(600), "0"}, vec("0 0 0")}
	l, e = statics.Motions(s)
	want(t, "Motions", l, e, [][]api.Vec{motion, vecs("0 0 0, 0 0 0, 1 0 0")}, api.OK)
	is, e := statics.IsMotion(s, motion)
	want(t, "IsMotion", is, e, true, api.OK)
	for _, x := range []struct {
		load api.Vec
		work api.Rat
		e    api.Errno
	}{{vec("0 1 0"), "-" + nines(600), api.OK}, {vec("-1 1 0"), "", api.ErrLarge}} {
		loads := []api.Vec{vec("0 0 0"), x.load, vec("0 0 0")}
		w, e := statics.Work(s, loads, motion)
		want(t, "Work", w, e, x.work, x.e)
		wantError(t, "CheckRefuse", statics.CheckRefuse(s, loads, motion), api.OK)
	}
}
