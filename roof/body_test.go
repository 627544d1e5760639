package roof_test

import (
	"math/big"
	"slices"
	"testing"

	"trunnel/api"
	"trunnel/roof"
	"trunnel/solid"
	"trunnel/space"
)

// P4.4

func TestBody(t *testing.T) {
	b, e := roof.Body(house(), "0")
	want(t, "Body", b, e, api.Body{
		half(-1, 0, 0, "0"), half(-1, 0, 1, "2"), half(0, -1, 0, "0"), half(0, -1, 1, "2"), half(0, 0, -1, "0"), half(0, 1, 0, "6"), half(0, 1, 1, "8"), half(1, 0, 0, "8"), half(1, 0, 1, "10"),
	}, api.OK)
	b, e = roof.Body(gabled(), "-3/2")
	want(t, "Body with gables", b, e, api.Body{
		half(-1, 0, 0, "0"), half(0, -1, 0, "0"), half(0, -1, 1, "2"), half(0, 0, -1, "3/2"), half(0, 1, 0, "6"), half(0, 1, 1, "8"), half(1, 0, 0, "8"),
	}, api.OK)
	b, e = roof.Body(round(slices.Repeat([]api.Rat{"1/2"}, 12)...), "-1")
	want(t, "the half-spaces of a body with twelve sides", len(b), e, 25, api.OK)
}

// TestBodyAtLimits has the greatest normals and the longest numbers.
func TestBodyAtLimits(t *testing.T) {
	wide := api.Wing{Corners: [][2]api.Rat{{"0", "0"}, {"999999999", "1"}, {"999999999", "2"}, {"0", "2"}}, Height: "0", Slopes: []api.Rat{"", "1", "1", "1"}}
	wider := api.Wing{Corners: [][2]api.Rat{{"0", "0"}, {"1000000000", "1"}, {"1000000000", "2"}, {"0", "2"}}, Height: "0", Slopes: []api.Rat{"", "1", "1", "1"}}
	for _, row := range []struct {
		what string
		w    api.Wing
		base api.Rat
		e    api.Errno
	}{
		{"a steep plane", changed(slope(1, "999999999")), "0", api.OK}, {"a steeper plane", changed(slope(1, "1000000000")), "0", api.ErrLarge}, {"a flat plane", changed(slope(1, "1/999999999")), "0", api.OK}, {"a flatter plane", changed(slope(1, "1/1000000000")), "0", api.ErrLarge},
		{"a side", wide, "-1", api.OK}, {"a side with a large normal", wider, "-1", api.ErrLarge},
		{"a low base", gabled(), "-" + nines(600), api.OK}, {"a base near the eaves", gabled(), sure(space.Sub("2", "1/"+power(599))), api.OK},
		{"a high wing", changed(height(nines(600))), "0", api.ErrLarge}, {"a wide wing", changed(changes(corner(1, nines(600), "0"), corner(2, nines(600), "6"))), "0", api.ErrLarge}, {"a wide wing with gables", changed(changes(corner(1, nines(600), "0"), corner(2, nines(600), "6"), slope(1, ""))), "0", api.OK},
	} {
		b, e := roof.Body(row.w, row.base)
		wantError(t, "Body with "+row.what, e, row.e)
		s, errSolid := roof.Solid([]api.Wing{row.w}, row.base)
		wantError(t, "Solid with "+row.what, errSolid, row.e)
		if e != api.OK && (b != nil || s != nil) {
			t.Errorf("Body and Solid with %s: got %v and %v beside an error", row.what, b, s)
		}
	}
}

// TestBase has bases that are not below the heights.
func TestBase(t *testing.T) {
	for _, row := range []struct {
		base api.Rat
		e    api.Errno
	}{{"-1/7", api.OK}, {"0", api.OK}, {"1", api.ErrRange}, {"2", api.ErrRange}, {"3", api.ErrRange}, {"", api.ErrForm}, {nines(601), api.ErrLarge}, {"4/2", api.ErrForm}} {
		low := []api.Wing{house(), changed(height("1")), house()} // the base has to be below all of them
		_, e := roof.Solid(low, row.base)
		wantError(t, "Solid above "+string(row.base), e, row.e)
		v, e := roof.Volume(low, row.base)
		wantError(t, "Volume above "+string(row.base), e, row.e)
		if e != api.OK && v != "" {
			t.Errorf("Volume above %s: got %s beside an error", row.base, v)
		}
		_, e = roof.Body(changed(height("1")), row.base)
		wantError(t, "Body above "+string(row.base), e, row.e)
	}
	// The range comes behind the errors of roofs and numbers, and ahead of large normals.
	steep := changed(slope(0, "1000000000"))
	_, e := roof.Body(api.Wing{}, "2")
	wantError(t, "Body of a wing with an error", e, api.ErrShape)
	_, e = roof.Body(steep, "2")
	wantError(t, "Body of a steep wing above a base out of range", e, api.ErrRange)
	_, e = roof.Solid([]api.Wing{steep, house()}, "2")
	wantError(t, "Solid of a steep wing above a base out of range", e, api.ErrRange)
	_, e = roof.Volume([]api.Wing{house(), {}}, "2")
	wantError(t, "Volume of a roof with an error", e, api.ErrShape)
}

func TestVolume(t *testing.T) {
	for _, row := range []struct {
		what string
		roof []api.Wing
		base api.Rat
		v    api.Rat
	}{
		{"the house", []api.Wing{house()}, "0", "150"}, {"gables", []api.Wing{gabled()}, "0", "168"}, {"the house, from -1/2 on", []api.Wing{house()}, "-1/2", "174"},
		{"the same wing twice", []api.Wing{house(), house()}, "0", "150"}, {"a wing in another one", []api.Wing{house(), gabled()}, "0", "168"}, {"two wings apart", []api.Wing{house(), shifted(house(), "8")}, "0", "300"}, {"two wings one half over the other", []api.Wing{gabled(), shifted(gabled(), "4")}, "0", "252"},
		{"a pyramid", []api.Wing{rectangle("0", "0", "2", "2", "0", "3", "3", "3", "3")}, "-1", "8"}, {"a lean-to", []api.Wing{rectangle("0", "0", "4", "6", "0", "1/2", "", "", "")}, "-1", "60"},
	} {
		v, e := roof.Volume(row.roof, row.base)
		want(t, "the volume of "+row.what, v, e, row.v, api.OK)
	}
}

// Of one wing only the volume and the normals have limits, and volumes do not depend on where the wing is.
func TestVolumeAtLimits(t *testing.T) {
	far := shifted(changed(slope(1, "1/3")), nines(599)+"/7")
	v, e := roof.Volume([]api.Wing{far}, "0")
	want(t, "the volume of a wing far away", v, e, sure(roof.Volume([]api.Wing{changed(slope(1, "1/3"))}, "0")), api.OK)
	fine := shifted(changed(slope(1, "1/3")), "1/"+power(599))
	_, e = roof.Body(fine, "0")
	wantError(t, "Body with a D of too many digits", e, api.ErrLarge)
	_, e = roof.Solid([]api.Wing{fine}, "0")
	wantError(t, "Solid with a D of too many digits", e, api.ErrLarge)
	v, e = roof.Volume([]api.Wing{fine}, "0")
	want(t, "the volume with a D of too many digits", v, e, sure(roof.Volume([]api.Wing{changed(slope(1, "1/3"))}, "0")), api.OK)
	_, e = roof.Volume([]api.Wing{house(), fine}, "0")
	wantError(t, "the volume of a union with a D of too many digits", e, api.ErrLarge)
	v, e = roof.Volume([]api.Wing{changed(slope(1, "1000000000"))}, "0")
	want(t, "the volume with a large normal", v, e, "", api.ErrLarge)
	v, e = roof.Volume([]api.Wing{rectangle("0", "0", power(300), power(298), "1", "1", "", "1", "")}, "0")
	wantError(t, "a large volume", e, api.ErrLarge)
	v, e = roof.Volume([]api.Wing{rectangle("0", "0", power(599), "1", "0", "2", "", "", "")}, "-8")
	want(t, "a volume of 600 digits", v, e, "9"+power(599)[1:], api.OK)
	v, e = roof.Volume([]api.Wing{rectangle("0", "0", power(599), "1", "0", "2", "", "", "")}, "-9")
	want(t, "a volume of 601 digits", v, e, "", api.ErrLarge)
}

// crossed returns wings with twelve sides, each one turned and moved, so that many bodies are left of their union.
func crossed(number int) []api.Wing {
	var l []api.Wing
	for i := range number {
		w := round("1", "2", "", "1", "1/2", "1", "3", "1", "2", "1", "1", "1/2")
		for range i {
			w.Slopes = append(w.Slopes[1:], w.Slopes[0])
		}
		l = append(l, shifted(w, integer(i*2)))
	}
	return l
}

// TestUnionErrors has a roof whose union is too large: the normals of all wings come ahead of it, and large
// numbers of the wings behind it do not.
func TestUnionErrors(t *testing.T) {
	l := crossed(8)
	number := 1
	for number < len(l) && errorOf(roof.Solid(l[:number], "-5")) == api.OK {
		number++
	}
	for what, e := range map[string]api.Errno{
		"too many bodies": errorOf(roof.Solid(l[:number], "-5")), "more wings": errorOf(roof.Solid(l, "-5")), "their volume": errorOf(roof.Volume(l, "-5")),
		"a wing with large numbers behind them": errorOf(roof.Solid(append(slices.Clone(l[:number]), shifted(changed(slope(1, "1/3")), "1/"+power(599))), "-5")),
	} {
		wantError(t, what, e, api.ErrMany)
	}
	steep := append(slices.Clone(l[:number]), changed(slope(3, "1000000000")))
	wantError(t, "a steep wing behind them", errorOf(roof.Solid(steep, "-5")), api.ErrLarge)
	wantError(t, "the volume of a steep wing behind them", errorOf(roof.Volume(steep, "-5")), api.ErrLarge)
}

func errorOf[T any](_ T, e api.Errno) api.Errno { return e }

// TestSolids compares the solid under a roof with the unions of the bodies.
func TestSolids(t *testing.T) {
	s := newSource(7)
	for range 40 {
		l := make([]api.Wing, 1+s.Intn(3))
		var united api.Solid
		e := api.OK
		for i := range l {
			l[i] = s.wing()
			if e == api.OK {
				united, e = solid.Union(united, api.Solid{sure(roof.Body(l[i], "-2"))})
			}
		}
		got, errSolid := roof.Solid(l, "-2")
		want(t, "Solid", got, errSolid, united, e)
		v, errVolume := roof.Volume(l, "-2")
		if e != api.OK {
			want(t, "Volume", v, errVolume, "", e)
		} else {
			want(t, "Volume", v, errVolume, sure(solid.Volume(united)), api.OK)
		}
	}
}

// TestAnyBodies checks the forms of bodies, and that their corners are those of the base, the eaves and the facets.
func TestAnyBodies(t *testing.T) {
	s := newSource(8)
	for range 100 {
		w := s.wing()
		m := modelOf(w)
		b, e := roof.Body(w, "-3")
		wantError(t, "Body", e, api.OK)
		wantError(t, "its form", solid.CheckBody(b), api.OK)
		corners := map[api.Vec]bool{}
		add := func(p place) {
			z, _ := m.height(p)
			corners[above(p, z)] = true
		}
		for _, p := range m.corners {
			corners[above(p, big.NewRat(-3, 1))] = true
			add(p)
		}
		for _, f := range sure(roof.Facets(w)) {
			for _, p := range wantFacet(t, m, f) {
				add(p)
			}
		}
		for _, p := range sure(solid.Corners(b)) {
			if !corners[p] {
				t.Errorf("Body of %v has the corner %v", w, p)
			}
			delete(corners, p)
		}
		if len(corners) > 0 {
			t.Errorf("Body of %v does not have the corners %v", w, corners)
		}
	}
}
