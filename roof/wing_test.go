package roof_test

import (
	"slices"
	"testing"

	"trunnel/api"
	"trunnel/roof"
	"trunnel/space"
)

// P4.1

// changed returns the wing of the examples with a change.
func changed(change func(w *api.Wing)) api.Wing {
	w := house()
	change(&w)
	return w
}

func corner(i int, x, y api.Rat) func(w *api.Wing) {
	return func(w *api.Wing) { w.Corners[i] = [2]api.Rat{x, y} }
}

func slope(i int, s api.Rat) func(w *api.Wing) { return func(w *api.Wing) { w.Slopes[i] = s } }

func height(h api.Rat) func(w *api.Wing) { return func(w *api.Wing) { w.Height = h } }

// changes returns a change that is all of these.
func changes(list ...func(w *api.Wing)) func(w *api.Wing) {
	return func(w *api.Wing) {
		for _, change := range list {
			change(w)
		}
	}
}

// many adds corners and slopes until there are so many.
func many(corners, slopes int) func(w *api.Wing) {
	return func(w *api.Wing) {
		w.Corners = slices.Concat(w.Corners, make([][2]api.Rat, corners))[:corners]
		w.Slopes = slices.Concat(w.Slopes, make([]api.Rat, slopes))[:slopes]
	}
}

// wrongWing is a wing with an error.
type wrongWing struct {
	what string
	wing api.Wing
	e    api.Errno
}

func wrongWings() []wrongWing {
	row := func(what string, e api.Errno, list ...func(w *api.Wing)) wrongWing {
		return wrongWing{what, changed(changes(list...)), e}
	}
	return []wrongWing{
		{"nothing", api.Wing{}, api.ErrShape},
		row("two corners", api.ErrShape, many(2, 2)), row("three slopes", api.ErrShape, many(4, 3)), row("five slopes", api.ErrShape, many(4, 5)), row("no slopes", api.ErrShape, many(4, 0)),
		row("13 corners with 12 slopes", api.ErrShape, many(13, 12)), row("13 corners", api.ErrMany, many(13, 13), corner(0, "x", "0")), row("1000 corners", api.ErrMany, many(1000, 1000)),
		row("a corner that is no number", api.ErrForm, corner(3, "0", "06")), row("a corner without a number", api.ErrForm, corner(1, "", "0")), row("a large corner", api.ErrLarge, corner(2, nines(601), "")),
		row("a large corner ahead of another one", api.ErrLarge, corner(1, "0", nines(601)), corner(2, "x", "0")), row("a large corner behind another one", api.ErrForm, corner(1, "x", "0"), corner(2, "0", nines(601))),
		row("a corner ahead of the height", api.ErrForm, corner(3, "0", "-0"), height(nines(601))),
		row("no height", api.ErrForm, height("")), row("a large height", api.ErrLarge, height(nines(601))), row("the height ahead of slopes", api.ErrLarge, height(nines(601)), slope(0, "x")),
		row("a slope that is no number", api.ErrForm, slope(2, "2/4")), row("a large slope", api.ErrLarge, slope(3, "1/"+nines(601))), row("the slope 0", api.ErrRange, slope(0, "0")), row("a slope below 0", api.ErrRange, slope(3, "-1/7")),
		row("a slope out of range ahead of another one", api.ErrRange, slope(1, "-1"), slope(2, "x")), row("a slope out of range behind another one", api.ErrForm, slope(1, "x"), slope(2, "-1")), row("a blank as a slope", api.ErrForm, slope(1, " ")),
		row("a slope ahead of the order", api.ErrRange, slope(3, "0"), corner(2, "1", "1")),
		row("clockwise corners", api.ErrOrder, corner(1, "0", "6"), corner(3, "8", "0")), row("a corner on a side", api.ErrOrder, corner(2, "4", "3")), row("a corner behind a side", api.ErrOrder, corner(2, "1", "1")), row("a corner on the line of a side", api.ErrOrder, corner(2, "9", "0")),
		row("a corner twice", api.ErrOrder, corner(1, "0", "0")), row("corners crosswise", api.ErrOrder, corner(1, "8", "6"), corner(2, "8", "0")), row("a corner four times", api.ErrOrder, corner(1, "0", "0"), corner(2, "0", "0"), corner(3, "0", "0")),
		{"a triangle twice round", api.Wing{Corners: [][2]api.Rat{{"0", "0"}, {"4", "0"}, {"0", "3"}, {"0", "0"}, {"4", "0"}, {"0", "3"}}, Height: "0", Slopes: []api.Rat{"1", "1", "1", "1", "1", "1"}}, api.ErrOrder},
		{"a star", api.Wing{Corners: [][2]api.Rat{{"0", "10"}, {"-6", "-8"}, {"9", "3"}, {"-9", "3"}, {"6", "-8"}}, Height: "0", Slopes: make([]api.Rat, 5)}, api.ErrOrder},
		row("the order ahead of lengths", api.ErrOrder, corner(2, "1", "2")),
		row("a length that is not rational", api.ErrForm, corner(2, "9", "6")), row("the same with one slope", api.ErrForm, corner(2, "9", "6"), slope(0, ""), slope(2, ""), slope(3, "")), row("a length near a rational one", api.ErrForm, corner(1, power(300), "0"), corner(2, sure(space.Add(power(300), "1")), "1")),
		row("gables alone", api.ErrEmpty, slope(0, ""), slope(1, ""), slope(2, ""), slope(3, "")), row("gables alone, with a length that is not rational", api.ErrEmpty, corner(2, "9", "6"), slope(0, ""), slope(1, ""), slope(2, ""), slope(3, "")),
	}
}

func TestCheckWing(t *testing.T) {
	for _, r := range wrongWings() {
		wantError(t, r.what, roof.CheckWing(r.wing), r.e)
	}
	good := map[string]api.Wing{
		"the house": house(), "gables": gabled(), "twelve corners": round(slices.Repeat([]api.Rat{"1/3"}, 12)...), "numbers below 0": changed(changes(height("-2"), corner(0, "-7/2", "0"), corner(3, "-7/2", "6"))),
		"a gable with a length that is not rational": changed(changes(corner(2, "9", "6"), slope(1, ""))), "a steep slope": changed(slope(2, nines(600))), "numbers of 600 digits": changed(changes(height("-"+nines(600)), corner(1, nines(600), "0"), corner(2, nines(600), "6"), slope(0, "1/"+nines(600)))),
		"a triangle": {Corners: [][2]api.Rat{{"0", "0"}, {"4", "0"}, {"0", "3"}}, Height: "0", Slopes: []api.Rat{"1", "1", "1"}}, "lengths with denominators": {Corners: [][2]api.Rat{{"1/7", "1/9"}, {"1/7", "-8/9"}, {"31/21", "1/9"}}, Height: "1/2", Slopes: []api.Rat{"1", "5/3", "1"}},
	}
	for what, w := range good {
		wantError(t, what, roof.CheckWing(w), api.OK)
	}
	s := newSource(1)
	for range 100 {
		wantError(t, "any wing", roof.CheckWing(s.wing()), api.OK)
	}
}

func TestCheckRoof(t *testing.T) {
	wantError(t, "no wings", roof.CheckRoof(nil), api.ErrEmpty)
	wantError(t, "an empty list", roof.CheckRoof([]api.Wing{}), api.ErrEmpty)
	wantError(t, "eight wings", roof.CheckRoof(slices.Repeat([]api.Wing{house()}, 8)), api.OK)
	wantError(t, "nine wings", roof.CheckRoof(slices.Repeat([]api.Wing{house()}, 9)), api.ErrMany)
	wantError(t, "nine wings with errors", roof.CheckRoof(make([]api.Wing, 9)), api.ErrMany)
	for _, r := range wrongWings() {
		wantError(t, r.what, roof.CheckRoof([]api.Wing{house(), r.wing, {}}), r.e)
	}
}

func TestPlanes(t *testing.T) {
	l, e := roof.Planes(house())
	want(t, "Planes", l, e, []api.Half{half(0, -1, 1, "2"), half(1, 0, 1, "10"), half(0, 1, 1, "8"), half(-1, 0, 1, "2")}, api.OK)
	l, e = roof.Planes(gabled())
	want(t, "Planes with gables", l, e, []api.Half{half(0, -1, 1, "2"), half(0, 1, 1, "8")}, api.OK)
	// The height 1/2 plus 2/3 of the distance from the line 3 x + 4 y = 12.
	w := api.Wing{Corners: [][2]api.Rat{{"4", "0"}, {"0", "3"}, {"0", "0"}}, Height: "1/2", Slopes: []api.Rat{"2/3", "", ""}}
	l, e = roof.Planes(w)
	want(t, "Planes across", l, e, []api.Half{half(6, 8, 15, "63/2")}, api.OK)
}

// The greatest normals, and the longest numbers.
func TestPlanesAtLimits(t *testing.T) {
	for _, row := range []struct {
		slope api.Rat
		n     int
		e     api.Errno
	}{{"999999999", 1, api.OK}, {"1000000000", 1, api.ErrLarge}, {"1/999999999", 999999999, api.OK}, {"1/1000000000", 0, api.ErrLarge}, {nines(600), 0, api.ErrLarge}} {
		l, e := roof.Planes(changed(slope(2, row.slope)))
		wantError(t, "Planes with the slope "+string(row.slope), e, row.e)
		if e == api.OK && l[2].N[2] != row.n || e != api.OK && l != nil {
			t.Errorf("Planes with the slope %s: got %v", row.slope, l)
		}
	}
	// The D of the sides are the height, and 8 or 6 above it.
	for _, row := range []struct {
		height api.Rat
		e      api.Errno
	}{{nines(600), api.ErrLarge}, {"-" + nines(600), api.OK}, {"1/" + power(599), api.OK}, {"1/" + nines(600), api.ErrLarge}} {
		l, e := roof.Planes(changed(height(row.height)))
		wantError(t, "Planes at a height", e, row.e)
		if e != api.OK && l != nil {
			t.Errorf("Planes at a height: got %v beside an error", l)
		}
	}
	l, e := roof.Planes(changed(changes(height("1/"+nines(600)), slope(0, "1/2"), slope(1, ""), slope(2, ""), slope(3, "1/2"))))
	want(t, "Planes at a height with gables", l, e, []api.Half{half(0, -1, 2, "2/"+nines(600)), half(-1, 0, 2, "2/"+nines(600))}, api.OK)
}

// TestPlanesOfAnyWings compares the heights of planes with those of the definitions.
func TestPlanesOfAnyWings(t *testing.T) {
	s := newSource(2)
	for range 200 {
		w := s.wing()
		m := modelOf(w)
		l := sure(roof.Planes(w))
		for i := range w.Slopes {
			f, ok := m.planes[i]
			if !ok {
				continue
			}
			for range 3 {
				p := s.inside(m)
				for _, side := range []int{-1, 0, 1} {
					z := add(f.at(p), frac(int64(side), 5))
					got, e := space.Side(l[0], api.Vec{ratOf(p[0]), ratOf(p[1]), ratOf(z)})
					want(t, "Side of a plane", got, e, side, api.OK)
				}
			}
			wantError(t, "a plane", space.CheckHalf(l[0]), api.OK)
			l = l[1:]
		}
		if len(l) > 0 {
			t.Errorf("Planes of %v: %d too many", w, len(l))
		}
	}
}
