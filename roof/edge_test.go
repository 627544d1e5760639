package roof_test

import (
	"math/big"
	"slices"
	"testing"

	"trunnel/api"
	"trunnel/roof"
)

// P4.3

func TestEdges(t *testing.T) {
	eaves := []roof.Edge{{"eave", 0, 0, vec("0", "0", "2"), vec("8", "0", "2")}, {"eave", 1, 1, vec("8", "0", "2"), vec("8", "6", "2")}, {"eave", 2, 2, vec("0", "6", "2"), vec("8", "6", "2")}, {"eave", 3, 3, vec("0", "0", "2"), vec("0", "6", "2")}}
	l, e := roof.Edges(house())
	want(t, "Edges", l, e, append(slices.Clone(eaves),
		roof.Edge{"hip", 0, 1, vec("5", "3", "5"), vec("8", "0", "2")}, roof.Edge{"ridge", 0, 2, vec("3", "3", "5"), vec("5", "3", "5")}, roof.Edge{"hip", 0, 3, vec("0", "0", "2"), vec("3", "3", "5")},
		roof.Edge{"hip", 1, 2, vec("5", "3", "5"), vec("8", "6", "2")}, roof.Edge{"hip", 2, 3, vec("0", "6", "2"), vec("3", "3", "5")},
	), api.OK)
	l, e = roof.Edges(gabled())
	want(t, "Edges with gables", l, e, []roof.Edge{
		eaves[0], eaves[2], {"ridge", 0, 2, vec("0", "3", "5"), vec("8", "3", "5")},
		{"gable", 0, 1, vec("8", "0", "2"), vec("8", "3", "5")}, {"gable", 2, 1, vec("8", "3", "5"), vec("8", "6", "2")}, {"gable", 0, 3, vec("0", "0", "2"), vec("0", "3", "5")}, {"gable", 2, 3, vec("0", "3", "5"), vec("0", "6", "2")},
	}, api.OK)
	// Over a square the facets of opposite sides have a point in common, which is no edge.
	l, e = roof.Edges(rectangle("0", "0", "2", "2", "0", "1", "1", "1", "1"))
	want(t, "Edges of a pyramid", l[4:], e, []roof.Edge{
		{"hip", 0, 1, vec("1", "1", "1"), vec("2", "0", "0")}, {"hip", 0, 3, vec("0", "0", "0"), vec("1", "1", "1")}, {"hip", 1, 2, vec("1", "1", "1"), vec("2", "2", "0")}, {"hip", 2, 3, vec("0", "2", "0"), vec("1", "1", "1")},
	}, api.OK)
	// A gable of a lean-to at its eave has only a corner in common with the facet; the one opposite is level.
	l, e = roof.Edges(rectangle("0", "0", "4", "6", "0", "1/2", "", "", ""))
	want(t, "Edges of a lean-to", l, e, []roof.Edge{
		{"eave", 0, 0, vec("0", "0", "0"), vec("4", "0", "0")}, {"gable", 0, 1, vec("4", "0", "0"), vec("4", "6", "3")}, {"gable", 0, 2, vec("0", "6", "3"), vec("4", "6", "3")}, {"gable", 0, 3, vec("0", "0", "0"), vec("0", "6", "3")},
	}, api.OK)
	// Side 0 is cut off from the gable 2 by the facet of side 3.
	l, e = roof.Edges(rectangle("0", "0", "4", "4", "0", "1", "", "", "1"))
	want(t, "Edges with a hip to a corner of gables", l, e, []roof.Edge{
		{"eave", 0, 0, vec("0", "0", "0"), vec("4", "0", "0")}, {"eave", 3, 3, vec("0", "0", "0"), vec("0", "4", "0")}, {"hip", 0, 3, vec("0", "0", "0"), vec("4", "4", "4")},
		{"gable", 0, 1, vec("4", "0", "0"), vec("4", "4", "4")}, {"gable", 3, 2, vec("0", "4", "0"), vec("4", "4", "4")},
	}, api.OK)
}

func TestValleys(t *testing.T) {
	l, e := roof.Valleys(gabled(), across("2"))
	want(t, "Valleys", l, e, []roof.Edge{
		{"valley", 0, 1, vec("4", "3", "5"), vec("7", "0", "2")}, {"valley", 0, 3, vec("1", "0", "2"), vec("4", "3", "5")}, {"valley", 2, 1, vec("4", "3", "5"), vec("7", "6", "2")}, {"valley", 2, 3, vec("1", "6", "2"), vec("4", "3", "5")},
	}, api.OK)
	l, e = roof.Valleys(across("2"), gabled())
	want(t, "Valleys the other way", l, e, []roof.Edge{
		{"valley", 1, 0, vec("4", "3", "5"), vec("7", "0", "2")}, {"valley", 1, 2, vec("4", "3", "5"), vec("7", "6", "2")}, {"valley", 3, 0, vec("1", "0", "2"), vec("4", "3", "5")}, {"valley", 3, 2, vec("1", "6", "2"), vec("4", "3", "5")},
	}, api.OK)
	l, e = roof.Valleys(gabled(), across("1"))
	want(t, "Valleys with a lower wing", l, e, []roof.Edge{
		{"valley", 0, 1, vec("4", "2", "4"), vec("6", "0", "2")}, {"valley", 0, 3, vec("2", "0", "2"), vec("4", "2", "4")}, {"valley", 2, 1, vec("4", "4", "4"), vec("6", "6", "2")}, {"valley", 2, 3, vec("2", "6", "2"), vec("4", "4", "4")},
	}, api.OK)
	for what, b := range map[string]api.Wing{
		"parallel planes": changed(changes(height("3"), slope(1, ""), slope(3, ""))), "a wing far away": shifted(gabled(), "100"), "the same plane": rectangle("4", "0", "12", "2", "2", "1", "", "", ""), "the same plane side by side": rectangle("8", "0", "12", "2", "2", "1", "", "", ""),
		"a wing far above": across("20"), "a wing far below": across("-20"),
	} {
		l, e = roof.Valleys(gabled(), b)
		want(t, "Valleys with "+what, l, e, nil, api.OK)
	}
	// The facets of both hip roofs have the line x = 8, and there the point at its middle, at the same height.
	l, e = roof.Valleys(house(), shifted(house(), "8"))
	want(t, "Valleys at a common eave", l, e, []roof.Edge{{"valley", 1, 3, vec("8", "0", "2"), vec("8", "6", "2")}}, api.OK)
	// Of the same planes none is a valley, but opposite ones of a wing meet in its ridge.
	l, e = roof.Valleys(gabled(), gabled())
	want(t, "Valleys of a wing with itself", l, e, []roof.Edge{{"valley", 0, 2, vec("0", "3", "5"), vec("8", "3", "5")}, {"valley", 2, 0, vec("0", "3", "5"), vec("8", "3", "5")}}, api.OK)
	l, e = roof.Valleys(gabled(), shifted(gabled(), "4"))
	want(t, "Valleys at a common ridge", l, e, []roof.Edge{{"valley", 0, 2, vec("4", "3", "5"), vec("8", "3", "5")}, {"valley", 2, 0, vec("4", "3", "5"), vec("8", "3", "5")}}, api.OK)
	// At a corner alone there is no valley.
	l, e = roof.Valleys(house(), rectangle("8", "6", "10", "8", "2", "1", "1", "1", "1"))
	want(t, "Valleys at a common corner", l, e, nil, api.OK)
}

// Points may have 600 digits, but not more; and normals are no error.
func TestEdgesAtLimits(t *testing.T) {
	long := func(x api.Rat) api.Wing {
		return rectangle("0", "0", x, "2", "0", "1", "1", "1", "1")
	}
	for _, x := range []api.Rat{nines(600), "1/" + nines(599)} {
		l, e := roof.Edges(long(x))
		want(t, "the number of edges", len(l), e, 9, api.OK)
	}
	l, e := roof.Edges(changed(height(nines(600))))
	want(t, "Edges with a large z", l, e, nil, api.ErrLarge)
	l, e = roof.Edges(rectangle("0", "0", nines(600), "3", "0", "1", "7/2", "1", "1"))
	want(t, "Edges with large coordinates", l, e, nil, api.ErrLarge) // the ridge ends 3/7 before side 1
	steep := rectangle("0", "0", "8", "6", "0", nines(300), "", nines(300), "")
	l, e = roof.Edges(steep)
	want(t, "the number of steep edges", len(l), e, 7, api.OK)
	l, e = roof.Valleys(steep, rectangle("1", "-6", "7", "6", "0", "", nines(300), "", nines(300)))
	want(t, "the number of steep valleys", len(l), e, 4, api.OK)
	l, e = roof.Valleys(gabled(), across("1/"+nines(600)))
	want(t, "Valleys with large numbers", l, e, nil, api.ErrLarge)
}

// lines returns the functions that are 0 at a boundary of a wing, or where its planes meet.
func (m model) lines() []field {
	lines := slices.Clone(m.inside)
	for i := range m.inside {
		for j := range i {
			f, okF := m.planes[i]
			g, okG := m.planes[j]
			if okF && okG {
				lines = append(lines, f.minus(g))
			}
		}
	}
	return lines
}

// segment returns the ends of what is common to a line and a set of places, if all these ends are on other lines.
func segment(line field, others []field, has func(p place) bool) (place, place, bool) {
	var ends []place
	for _, other := range others {
		if p, ok := line.crossing(other); ok && has(p) {
			ends = append(ends, p)
		}
	}
	if len(ends) == 0 {
		return place{}, place{}, false
	}
	from, to := slices.MinFunc(ends, place.compare), slices.MaxFunc(ends, place.compare)
	return from, to, from.compare(to) != 0
}

// above returns the point above a place with a height.
func above(p place, z *big.Rat) api.Vec { return api.Vec{ratOf(p[0]), ratOf(p[1]), ratOf(z)} }

// edgesOf returns the edges of a wing, by their definition.
func edgesOf(m model) []roof.Edge {
	var eaves, rest, gables []roof.Edge
	add := func(list *[]roof.Edge, kind string, a, b int, line field) {
		from, to, ok := segment(line, m.lines(), func(p place) bool {
			_, slope := m.planes[b]
			return m.faces(a, p) && (kind != "" || !slope || m.faces(b, p))
		})
		if !ok {
			return
		}
		low, _ := m.height(from)
		high, _ := m.height(to)
		if kind == "" && low.Cmp(high) == 0 {
			kind = "ridge"
		} else if kind == "" {
			kind = "hip"
		}
		*list = append(*list, roof.Edge{Kind: kind, A: a, B: b, From: above(from, low), To: above(to, high)})
	}
	for i := range m.inside {
		for j := range m.inside {
			f, okF := m.planes[i]
			g, okG := m.planes[j]
			switch {
			case i == j && okF:
				add(&eaves, "eave", i, i, m.inside[i])
			case i < j && okF && okG:
				add(&rest, "", i, j, f.minus(g))
			case !okF && okG:
				add(&gables, "gable", j, i, m.inside[i])
			}
		}
	}
	return slices.Concat(eaves, rest, gables)
}

func TestAnyEdges(t *testing.T) {
	s := newSource(5)
	kinds := map[string]int{}
	for range 200 {
		w := s.wing()
		l, e := roof.Edges(w)
		want(t, "Edges", l, e, edgesOf(modelOf(w)), api.OK)
		for _, x := range l {
			kinds[x.Kind]++
		}
	}
	for _, kind := range []string{"eave", "ridge", "hip", "gable"} {
		if kinds[kind] < 20 {
			t.Errorf("there are only %d edges of the kind %s", kinds[kind], kind)
		}
	}
}

// valleysOf returns the valleys of two wings, by their definition.
func valleysOf(m, n model) []roof.Edge {
	var valleys []roof.Edge
	for a := range m.inside {
		for b := range n.inside {
			f, okF := m.planes[a]
			g, okG := n.planes[b]
			if !okF || !okG {
				continue
			}
			from, to, ok := segment(f.minus(g), slices.Concat(m.lines(), n.lines()), func(p place) bool { return m.faces(a, p) && n.faces(b, p) })
			if ok {
				valleys = append(valleys, roof.Edge{Kind: "valley", A: a, B: b, From: above(from, f.at(from)), To: above(to, f.at(to))})
			}
		}
	}
	return valleys
}

func TestAnyValleys(t *testing.T) {
	s := newSource(6)
	number := 0
	for i := range 150 {
		a, b := s.wing(), s.wing()
		if i%5 == 0 {
			b = shifted(a, s.rat(0, 4)) // many planes are the same
		}
		l, e := roof.Valleys(a, b)
		want(t, "Valleys", l, e, valleysOf(modelOf(a), modelOf(b)), api.OK)
		number += len(l)
	}
	if number < 100 {
		t.Errorf("there are only %d valleys", number)
	}
}
