package solid_test

import (
	"testing"

	"trunnel/api"
	"trunnel/solid"
	"trunnel/space"
)

// P2.2

func TestCorners(t *testing.T) {
	got, e := solid.Corners(block(-2, 0, 0, 10, 3, 4))
	want(t, "Corners of a box", got, e, []api.Vec{
		{"-2", "0", "0"}, {"-2", "0", "4"}, {"-2", "3", "0"}, {"-2", "3", "4"},
		{"10", "0", "0"}, {"10", "0", "4"}, {"10", "3", "0"}, {"10", "3", "4"},
	}, api.OK)
	got, e = solid.Corners(simplex("1/3"))
	want(t, "Corners of a simplex", got, e, []api.Vec{origin(), {"0", "0", "1/3"}, {"0", "1/3", "0"}, {"1/3", "0", "0"}}, api.OK)
	// At the top of a pyramid more than three planes meet.
	pyramid := api.Body{half(-1, 0, 1, "0"), half(0, -1, 1, "0"), half(0, 0, -1, "0"), half(0, 1, 1, "2"), half(1, 0, 1, "2")}
	got, e = solid.Corners(pyramid)
	want(t, "Corners of a pyramid", got, e, []api.Vec{origin(), {"0", "2", "0"}, {"1", "1", "1"}, {"2", "0", "0"}, {"2", "2", "0"}}, api.OK)
	s := newSource(5)
	for range 200 {
		b := s.body()
		got, e := solid.Corners(b)
		want(t, "Corners", got, e, corners(b), api.OK)
	}
}

func TestFacets(t *testing.T) {
	got, e := solid.Facets(block(0, 0, 0, 2, 3, 4))
	want(t, "Facets of a box", got, e, [][]api.Vec{
		{{"0", "0", "0"}, {"0", "0", "4"}, {"0", "3", "4"}, {"0", "3", "0"}},
		{{"0", "0", "0"}, {"2", "0", "0"}, {"2", "0", "4"}, {"0", "0", "4"}},
		{{"0", "0", "0"}, {"0", "3", "0"}, {"2", "3", "0"}, {"2", "0", "0"}},
		{{"0", "0", "4"}, {"2", "0", "4"}, {"2", "3", "4"}, {"0", "3", "4"}},
		{{"0", "3", "0"}, {"0", "3", "4"}, {"2", "3", "4"}, {"2", "3", "0"}},
		{{"2", "0", "0"}, {"2", "3", "0"}, {"2", "3", "4"}, {"2", "0", "4"}},
	}, api.OK)
	s := newSource(6)
	bodies := []api.Body{column(30, "7/3")}
	for range 200 {
		bodies = append(bodies, s.body())
	}
	for _, b := range bodies {
		var wanted [][]api.Vec
		points := corners(b)
		for _, h := range b {
			wanted = append(wanted, inOrder(onPlane(points, h), h))
		}
		got, e := solid.Facets(b)
		want(t, "Facets", got, e, wanted, api.OK)
	}
}

func TestFacetsFarAway(t *testing.T) {
	b := column(5, "1")
	for _, at := range []api.Vec{{digits(597), "-" + digits(597), digits(590)}, {"0", "-1/" + digits(590), digits(20)}} {
		moved := must[api.Solid](t)(solid.Move(api.Solid{b}, plain(at)))
		var wanted [][]api.Vec
		for _, facet := range must[[][]api.Vec](t)(solid.Facets(b)) {
			for i, p := range facet {
				facet[i] = sure(space.AddVec(p, at))
			}
			wanted = append(wanted, facet)
		}
		got, e := solid.Facets(moved[0])
		want(t, "Facets far away", got, e, wanted, api.OK)
		v, e := solid.Volume(moved)
		want(t, "Volume far away", v, e, must[api.Rat](t)(solid.Volume(api.Solid{b})), api.OK)
	}
}

func TestAreas(t *testing.T) {
	got, e := solid.Areas(block(0, 0, 0, 2, 3, 4))
	want(t, "Areas of a box", got, e, []api.Vec{{"-12", "0", "0"}, {"0", "-8", "0"}, {"0", "0", "-6"}, {"0", "0", "6"}, {"0", "8", "0"}, {"12", "0", "0"}}, api.OK)
	got, e = solid.Areas(simplex("1"))
	want(t, "Areas of a simplex", got, e, []api.Vec{{"-1/2", "0", "0"}, {"0", "-1/2", "0"}, {"0", "0", "-1/2"}, {"1/2", "1/2", "1/2"}}, api.OK)
	s := newSource(7)
	for range 100 {
		b := s.body()
		var wanted []api.Vec
		points := corners(b)
		for _, h := range b {
			wanted = append(wanted, area(inOrder(onPlane(points, h), h)))
		}
		got, e := solid.Areas(b)
		want(t, "Areas", got, e, wanted, api.OK)
	}
}

func TestVolume(t *testing.T) {
	f := api.Frame{Origin: api.Vec{"1", "7", "-9"}, X: api.Vec{"3", "4", "0"}, Y: api.Vec{"-4", "3", "0"}, Z: api.Vec{"0", "0", "5"}}
	for _, row := range []struct {
		what string
		s    api.Solid
		v    api.Rat
	}{
		{"nothing", nil, "0"},
		{"a box", api.Solid{block(0, 0, 0, 2, 3, 4)}, "24"},
		{"a box elsewhere", api.Solid{block(-7, 5, 1, -5, 8, 5)}, "24"},
		{"two boxes", api.Solid{block(0, 0, 0, 2, 3, 4), block(2, 0, 0, 3, 1, 1)}, "25"},
		{"a simplex", api.Solid{simplex("1")}, "1/6"},
		{"a box in a stretched frame", api.Solid{sure(solid.Box(f, api.Vec{"1", "2", "1/3"}))}, "250/3"},
	} {
		v, e := solid.Volume(row.s)
		want(t, "Volume of "+row.what, v, e, row.v, api.OK)
	}
	s := newSource(8)
	for range 100 {
		all := s.solid(3)
		sum := api.Rat("0")
		for _, b := range all {
			sum = sure(space.Add(sum, volume(b)))
		}
		v, e := solid.Volume(all)
		want(t, "Volume", v, e, sum, api.OK)
	}
}

func TestCentre(t *testing.T) {
	for _, row := range []struct {
		what string
		s    api.Solid
		c    api.Vec
	}{
		{"a box", api.Solid{block(0, 0, 0, 2, 3, 4)}, api.Vec{"1", "3/2", "2"}},
		{"a simplex", api.Solid{simplex("1")}, api.Vec{"1/4", "1/4", "1/4"}},
		{"a large and a small box", api.Solid{block(0, 0, 0, 2, 2, 2), block(10, 0, 0, 11, 2, 1)}, api.Vec{"29/10", "1", "9/10"}},
	} {
		c, e := solid.Centre(row.s)
		want(t, "Centre of "+row.what, c, e, row.c, api.OK)
	}
	c, e := solid.Centre(nil)
	want(t, "Centre of nothing", c, e, api.Vec{}, api.ErrEmpty)
	s := newSource(9)
	for range 50 {
		all := s.solid(3)
		weight, sum := api.Rat("0"), origin()
		for _, b := range all {
			v := volume(b)
			weight, sum = sure(space.Add(weight, v)), sure(space.AddVec(sum, sure(space.Scale(v, centre(b)))))
		}
		c, e := solid.Centre(all)
		want(t, "Centre", c, e, sure(space.Scale(sure(space.Div("1", weight)), sum)), api.OK)
	}
}

func TestMeasureLimits(t *testing.T) {
	// The corners of a sharp simplex have more digits than its half-spaces.
	large := digits(600)
	sharp := api.Body{half(-1, 0, 0, "0"), half(0, -1, 0, "0"), half(0, 0, -1, "0"), half(3, 5, 7, large)}
	corners, e := solid.Corners(sharp)
	want(t, "Corners of a large simplex", corners, e, []api.Vec{origin(), {"0", "0", sure(space.Div(large, "7"))}, {"0", sure(space.Div(large, "5")), "0"}, {sure(space.Div(large, "3")), "0", "0"}}, api.OK)
	areas, e := solid.Areas(sharp)
	want(t, "Areas of a large simplex", areas, e, nil, api.ErrLarge)
	v, e := solid.Volume(api.Solid{sharp})
	want(t, "Volume of a large simplex", v, e, "", api.ErrLarge)
	c, e := solid.Centre(api.Solid{sharp})
	want(t, "Centre of a large simplex", c, e, api.Vec{sure(space.Div(large, "12")), sure(space.Div(large, "20")), sure(space.Div(large, "28"))}, api.OK)
	narrow := simplex("1")
	narrow[3].D = "1/" + digits(600)
	narrow[3].N = [3]int{999, 1000, 1001}
	points, e := solid.Corners(narrow)
	want(t, "Corners of a small simplex", points, e, nil, api.ErrLarge)
	facets, e := solid.Facets(narrow)
	want(t, "Facets of a small simplex", facets, e, nil, api.ErrLarge)
	c, e = solid.Centre(api.Solid{narrow})
	want(t, "Centre of a small simplex", c, e, api.Vec{}, api.ErrLarge)
	wantError(t, "CheckBody of a small simplex", solid.CheckBody(narrow), api.OK)
	low, high, e := solid.Extent(api.Solid{narrow}, api.Vec{"1", "0", "0"})
	want(t, "Extent of a small simplex", [2]api.Rat{low, high}, e, [2]api.Rat{}, api.ErrLarge)
	low, high, e = solid.Extent(api.Solid{narrow}, api.Vec{"999", "1000", "1001"})
	want(t, "Extent across a small simplex", [2]api.Rat{low, high}, e, [2]api.Rat{"0", "1/" + digits(600)}, api.OK)
}
