package roof_test

import (
	"math"
	"math/big"
	"slices"
	"testing"

	"trunnel/api"
	"trunnel/roof"
	"trunnel/space"
)

// P4.5: Rafters, Axis and Setting.

func TestRafters(t *testing.T) {
	steep := rectangle("0", "0", "4", "4", "0", "1", "", "", "") // with a level gable above
	for _, row := range []struct {
		what           string
		w              api.Wing
		side           int
		first, spacing api.Rat
		l              [][2]api.Vec
		e              api.Errno
	}{
		{"side 0", house(), 0, "1", "3", [][2]api.Vec{{vec("1", "0", "2"), vec("1", "1", "3")}, {vec("4", "0", "2"), vec("4", "3", "5")}, {vec("7", "0", "2"), vec("7", "1", "3")}}, api.OK},
		{"side 1, from 0 on", house(), 1, "0", "3", [][2]api.Vec{{vec("8", "3", "2"), vec("5", "3", "5")}}, api.OK}, {"side 2, up to its end", house(), 2, "5/2", "11/2", [][2]api.Vec{{vec("11/2", "6", "2"), vec("11/2", "7/2", "9/2")}}, api.OK}, {"side 3", house(), 3, "5/2", "3", [][2]api.Vec{{vec("0", "7/2", "2"), vec("5/2", "7/2", "9/2")}, {vec("0", "1/2", "2"), vec("1/2", "1/2", "5/2")}}, api.OK},
		{"no rafters at the end", house(), 0, "8", "1", nil, api.OK}, {"no rafters behind the end", house(), 0, "100", "1", nil, api.OK}, {"one before the end", house(), 0, "63/8", "1/8", [][2]api.Vec{{vec("63/8", "0", "2"), vec("63/8", "1/8", "17/8")}}, api.OK}, {"no rafters from 0 on", house(), 0, "0", "8", nil, api.OK},
		{"a corner of the facet", house(), 0, "3", "5", [][2]api.Vec{{vec("3", "0", "2"), vec("3", "3", "5")}}, api.OK}, {"both corners of the facet", house(), 0, "3", "2", [][2]api.Vec{{vec("3", "0", "2"), vec("3", "3", "5")}, {vec("5", "0", "2"), vec("5", "3", "5")}, {vec("7", "0", "2"), vec("7", "1", "3")}}, api.OK},
		{"a gable above", steep, 0, "2", "3", [][2]api.Vec{{vec("2", "0", "0"), vec("2", "4", "4")}}, api.OK}, {"a gable", steep, 1, "2", "3", nil, api.ErrUnknown},
		{"a first one below 0", house(), 0, "-1", "1", nil, api.ErrRange}, {"no spacing", house(), 0, "1", "0", nil, api.ErrRange}, {"a spacing below 0", house(), 0, "1", "-1/2", nil, api.ErrRange}, {"a side that does not exist", house(), 4, "1", "1", nil, api.ErrUnknown}, {"a side below 0", house(), -1, "1", "1", nil, api.ErrUnknown},
		{"first is no number", house(), 0, "x", "0", nil, api.ErrForm}, {"spacing is no number", house(), 0, "-1", "", nil, api.ErrForm}, {"a large first one", house(), 0, nines(601), "x", nil, api.ErrLarge}, {"the side ahead of first", house(), 4, "x", "", nil, api.ErrUnknown}, {"the wing ahead of the side", changed(slope(0, "0")), 4, "x", "", nil, api.ErrRange},
	} {
		l, e := roof.Rafters(row.w, row.side, row.first, row.spacing)
		want(t, "Rafters with "+row.what, l, e, row.l, row.e)
	}
}

// There may be 256 rafters, and points of 600 digits; and normals are no error.
func TestRaftersAtLimits(t *testing.T) {
	for _, row := range []struct {
		what           string
		w              api.Wing
		first, spacing api.Rat
		number         int
		e              api.Errno
	}{
		{"256 rafters", house(), "0", "8/257", 256, api.OK}, {"257 rafters", house(), "0", "4/129", 0, api.ErrMany}, {"256 rafters, not from 0 on", house(), "1/1000", "1/32", 256, api.OK}, {"257 rafters, not from 0 on", house(), "1/1000", "1/33", 0, api.ErrMany},
		{"very many rafters", house(), "0", "1/" + nines(600), 0, api.ErrMany}, {"very many rafters with large numbers", changed(height(nines(600))), "0", "1/" + nines(600), 0, api.ErrMany}, {"a large spacing", house(), "1", nines(600), 1, api.OK}, {"a large first one", house(), nines(600), "1", 0, api.OK},
		{"large numbers", changed(height(nines(600))), "1", "1", 0, api.ErrLarge}, {"fine numbers", house(), "1/" + nines(600), "7", 0, api.ErrLarge}, {"a flat slope", changed(slope(0, "1/"+nines(599))), "4", "9", 1, api.OK}, {"a steep slope", changed(slope(0, nines(600))), "2", "9", 1, api.OK},
	} {
		l, e := roof.Rafters(row.w, 0, row.first, row.spacing)
		want(t, row.what, len(l), e, row.number, row.e)
	}
}

// TestAnyRafters compares rafters with what the definitions make of a line to the inside.
func TestAnyRafters(t *testing.T) {
	s := newSource(10)
	for range 200 {
		w := s.wing()
		m := modelOf(w)
		first, spacing := s.rat(0, 2), s.rat(1, 3)
		for side, f := range m.planes {
			p, in := m.corners[side], m.inside[side]
			length, _ := rootOf(add(square(in.a), square(in.b)))
			var wanted [][2]api.Vec
			for d := bigOf(first); d.Cmp(length) < 0; d = add(d, bigOf(spacing)) {
				if d.Sign() == 0 {
					continue
				}
				// The way along the side is that to the inside, turned clockwise.
				low := place{add(p[0], mul(d, quo(in.b, length))), sub(p[1], mul(d, quo(in.a, length)))}
				high := m.leave(f, low, place{quo(in.a, length), quo(in.b, length)})
				wanted = append(wanted, [2]api.Vec{above(low, f.at(low)), above(high, f.at(high))})
			}
			l, e := roof.Rafters(w, side, first, spacing)
			want(t, "Rafters", l, e, wanted, api.OK)
		}
	}
}

// leave returns the point at which a line leaves the places where a plane is the lowest one.
func (m model) leave(plane field, from, way place) place {
	var least *big.Rat
	barriers := slices.Clone(m.inside)
	for _, g := range m.planes {
		barriers = append(barriers, g.minus(plane))
	}
	for _, f := range barriers { // none of them may get below 0
		climb := add(mul(f.a, way[0]), mul(f.b, way[1]))
		if climb.Sign() < 0 {
			if far := quo(f.at(from), new(big.Rat).Neg(climb)); least == nil || far.Cmp(least) < 0 {
				least = far
			}
		}
	}
	return place{add(from[0], mul(least, way[0])), add(from[1], mul(least, way[1]))}
}

func TestAxis(t *testing.T) {
	for _, row := range []struct {
		what     string
		from, to api.Vec
		f        api.Frame
		e        api.Errno
	}{
		{"a rafter", vec("1", "0", "2"), vec("1", "1", "3"), api.Frame{Origin: vec("1", "0", "2"), X: vec("0", "1", "1"), Y: vec("-1", "0", "0"), Z: vec("0", "-1", "1")}, api.OK},
		{"a level one", vec("0", "0", "0"), vec("3", "4", "0"), api.Frame{Origin: vec("0", "0", "0"), X: vec("3", "4", "0"), Y: vec("-4", "3", "0"), Z: vec("0", "0", "25")}, api.OK},
		{"one downwards", vec("1/2", "1", "1"), vec("3/2", "3", "-2"), api.Frame{Origin: vec("1/2", "1", "1"), X: vec("1", "2", "-3"), Y: vec("-2", "1", "0"), Z: vec("3", "6", "5")}, api.OK},
		{"a post", vec("1", "0", "2"), vec("1", "0", "3"), api.Frame{}, api.ErrNone}, {"a point", vec("1", "0", "2"), vec("1", "0", "2"), api.Frame{}, api.ErrNone},
		{"from is none", vec("1", "0", "x"), vec("1", "0", nines(601)), api.Frame{}, api.ErrForm}, {"from is large", vec("1", nines(601), "0"), api.Vec{}, api.Frame{}, api.ErrLarge}, {"to is none", vec("1", "0", "2"), vec("1", "0", "03"), api.Frame{}, api.ErrForm},
		{"the largest numbers", vec("0", "0", "0"), vec(power(299), "0", power(300)), api.Frame{Origin: vec("0", "0", "0"), X: vec(power(299), "0", power(300)), Y: vec("0", power(299), "0"), Z: vec("-"+power(599), "0", power(598))}, api.OK},
		{"a large Z", vec("0", "0", "0"), vec(power(300), "0", power(300)), api.Frame{}, api.ErrLarge}, {"a large X", vec("-1", "0", "0"), vec(nines(600), "0", "0"), api.Frame{}, api.ErrLarge}, {"a large post", vec("1", "1", "-1"), vec("1", "1", nines(600)), api.Frame{}, api.ErrNone},
	} {
		f, e := roof.Axis(row.from, row.to)
		want(t, "Axis of "+row.what, f, e, row.f, row.e)
		if e == api.OK {
			wantError(t, "the frame of "+row.what, space.CheckFrame(f), api.OK)
		}
	}
}

func TestSetting(t *testing.T) {
	for _, row := range []struct {
		tangent   api.Rat
		most      int
		rise, run int
		e         api.Errno
	}{
		{"7/10", 12, 7, 10, api.OK}, {"7/10", 5, 2, 3, api.OK}, {"0", 5, 0, 1, api.OK}, {"0", 1, 0, 1, api.OK}, {"100", 5, 5, 1, api.OK}, {"1/2", 1, 0, 1, api.OK}, {"3/2", 1, 1, 1, api.OK}, {"1", 1000, 1, 1, api.OK}, {"2/3", 1000, 2, 3, api.OK},
		{"3/4", 2, 1, 1, api.OK}, {"3/2", 3, 3, 2, api.OK}, {"5/2", 2, 2, 1, api.OK}, {"355/113", 1000, 355, 113, api.OK}, {"355/113", 354, 333, 106, api.OK}, {"999/1000", 1000, 999, 1000, api.OK}, {"999/1000", 999, 998, 999, api.OK}, {"1/1000", 1000, 1, 1000, api.OK}, {"1/2001", 1000, 0, 1, api.OK}, {"1/1999", 1000, 1, 1000, api.OK}, {"1/2000", 1000, 0, 1, api.OK},
		{nines(600), 1000, 1000, 1, api.OK}, {"1/" + nines(600), 1000, 0, 1, api.OK}, {power(599) + "/" + nines(598), 1000, 10, 1, api.OK}, {sure(space.Sub("1", "1/"+power(599))), 1000, 1, 1, api.OK},
		{"-1", 5, 0, 0, api.ErrRange}, {"-1/" + nines(600), 5, 0, 0, api.ErrRange}, {"1", 1001, 0, 0, api.ErrRange}, {"1", 0, 0, 0, api.ErrRange}, {"1", -5, 0, 0, api.ErrRange}, {"1", math.MaxInt, 0, 0, api.ErrRange}, {"1", math.MinInt, 0, 0, api.ErrRange},
		{"", 0, 0, 0, api.ErrForm}, {"2/4", 12, 0, 0, api.ErrForm}, {nines(601), -1, 0, 0, api.ErrLarge},
	} {
		l, e := both(roof.Setting(row.tangent, row.most))
		want(t, "Setting of "+string(row.tangent), l, e, [2]int{row.rise, row.run}, row.e)
	}
}

// TestAnySettings compares settings with all others.
func TestAnySettings(t *testing.T) {
	s := newSource(11)
	for range 300 {
		den := int64(1 + s.Intn(40))
		tangent, most := frac(int64(s.Intn(80)), den), 1+s.Intn(12)
		var least *big.Rat
		var wanted [2]int
		for run := 1; run <= most; run++ {
			for rise := range most + 1 {
				miss := sub(frac(int64(rise), int64(run)), tangent)
				if miss.Abs(miss); least == nil || miss.Cmp(least) < 0 {
					least, wanted = miss, [2]int{rise, run}
				}
			}
		}
		l, e := both(roof.Setting(ratOf(tangent), most))
		want(t, "Setting", l, e, wanted, api.OK)
	}
}
