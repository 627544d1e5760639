package draw_test

import (
	"cmp"
	"math/big"
	"slices"
	"strconv"
	"strings"

	"trunnel/api"
	"trunnel/solid"
)

// Edges, hidden points and drawings by the definitions, with numbers of math/big. Between neighbouring breaks (all places
// where something can change) a point in the middle tells of all points; neighbourhoods are told by the volumes of their
// parts of a cube.

type point [3]*big.Rat

func numOf(a api.Rat) *big.Rat {
	r, ok := new(big.Rat).SetString(string(a))
	if !ok {
		panic("no number: " + string(a))
	}
	return r
}

func ratOf(a *big.Rat) api.Rat { return api.Rat(a.RatString()) }

func plus(a, b *big.Rat) *big.Rat { return new(big.Rat).Add(a, b) }

func minus(a, b *big.Rat) *big.Rat { return new(big.Rat).Sub(a, b) }

func times(a, b *big.Rat) *big.Rat { return new(big.Rat).Mul(a, b) }

func over(a, b *big.Rat) *big.Rat { return new(big.Rat).Quo(a, b) }

func pointOf(v api.Vec) point { return point{numOf(v[0]), numOf(v[1]), numOf(v[2])} }

func (p point) vec() api.Vec { return api.Vec{ratOf(p[0]), ratOf(p[1]), ratOf(p[2])} }

func (p point) minus(q point) point {
	return point{minus(p[0], q[0]), minus(p[1], q[1]), minus(p[2], q[2])}
}

// ahead returns p + t d.
func (p point) ahead(t *big.Rat, d point) point {
	return point{plus(p[0], times(t, d[0])), plus(p[1], times(t, d[1])), plus(p[2], times(t, d[2]))}
}

func (p point) dot(q point) *big.Rat {
	return plus(plus(times(p[0], q[0]), times(p[1], q[1])), times(p[2], q[2]))
}

func (p point) cross(q point) point {
	minor := func(i, j int) *big.Rat { return minus(times(p[i], q[j]), times(p[j], q[i])) }
	return point{minor(1, 2), minor(2, 0), minor(0, 1)}
}

// compare compares points by their coordinates.
func (p point) compare(q point) int {
	return cmp.Or(p[0].Cmp(q[0]), p[1].Cmp(q[1]), p[2].Cmp(q[2]))
}

// wall is a half-space, and cell a body: its half-spaces, and its edges.
type wall struct {
	n point
	d *big.Rat
	h api.Half
}

type cell struct {
	walls []wall
	edges [][2]point
}

// excess returns by how much a point is outside of a half-space.
func (w wall) excess(p point) *big.Rat { return minus(w.n.dot(p), w.d) }

func cellOf(b api.Body) cell {
	var c cell
	for _, h := range b {
		n := point{}
		for i, x := range h.N {
			n[i] = big.NewRat(int64(x), 1)
		}
		c.walls = append(c.walls, wall{n, numOf(h.D), h})
	}
	corners := sure(solid.Corners(b))
	for j, q := range corners {
		for _, p := range corners[:j] {
			if a, b := pointOf(p), pointOf(q); len(c.tight(a, b)) == 2 {
				c.edges = append(c.edges, [2]point{a, b})
			}
		}
	}
	return c
}

// tight returns the half-spaces in whose planes all of some points are.
func (c cell) tight(points ...point) []api.Half {
	var l []api.Half
	for _, w := range c.walls {
		if !slices.ContainsFunc(points, func(p point) bool { return w.excess(p).Sign() != 0 }) {
			l = append(l, w.h)
		}
	}
	return l
}

func (c cell) contains(p point) bool {
	return !slices.ContainsFunc(c.walls, func(w wall) bool { return w.excess(p).Sign() > 0 })
}

// model is a solid, with what is known of neighbourhoods.
type model struct {
	cells []cell
	known map[string]string
}

func modelOf(s api.Solid) *model {
	m := &model{known: map[string]string{}}
	for _, b := range s {
		m.cells = append(m.cells, cellOf(b))
	}
	return m
}

// around returns what the neighbourhood of the solid at a point is: all, flat (a half-space), none, or something else.
func (m *model) around(p point) string {
	var sets [][]api.Half
	name := ""
	for _, c := range m.cells {
		if c.contains(p) {
			set := c.tight(p)
			if len(set) == 0 {
				return "all"
			}
			sets = append(sets, set)
			for _, h := range set {
				name += strconv.Itoa(h.N[0]) + " " + strconv.Itoa(h.N[1]) + " " + strconv.Itoa(h.N[2]) + ","
			}
			name += ";"
		}
	}
	if _, ok := m.known[name]; !ok {
		m.known[name] = kindOf(sets)
	}
	return m.known[name]
}

// kindOf returns what some sets of vectors are together, by the half-spaces of each one.
func kindOf(sets [][]api.Half) string {
	var parts api.Solid
	for _, set := range sets {
		part := boxes("-1 -1 -1 1 1 1")
		for _, h := range set {
			part = sure(solid.Cut(part, half(h.N[0], h.N[1], h.N[2], "0")))
		}
		parts = append(parts, part...)
	}
	switch volume := sure(solid.Volume(parts)); volume {
	case "0":
		return "none"
	case "8":
		return "all"
	case "4":
		for _, h := range slices.Concat(sets...) {
			if beyond := half(-h.N[0], -h.N[1], -h.N[2], "0"); len(sure(solid.Cut(parts, beyond))) == 0 {
				return "flat"
			}
		}
	}
	return "edge"
}

// crossings returns the shares of the way from p along d at which planes of the solid are crossed.
func (m *model) crossings(p, d point) []*big.Rat {
	var l []*big.Rat
	for _, c := range m.cells {
		for _, w := range c.walls {
			if climb := w.n.dot(d); climb.Sign() != 0 {
				l = append(l, over(new(big.Rat).Neg(w.excess(p)), climb))
			}
		}
	}
	return l
}

// steps returns the numbers of a list, in ascending order, that are above a least one (and below a greatest one), between this and that.
func steps(list []*big.Rat, least, most *big.Rat) []*big.Rat {
	l := slices.DeleteFunc(slices.Clone(list), func(x *big.Rat) bool {
		return x.Cmp(least) <= 0 || most != nil && x.Cmp(most) >= 0
	})
	l = append(l, least)
	if most != nil {
		l = append(l, most)
	}
	slices.SortFunc(l, (*big.Rat).Cmp)
	return slices.CompactFunc(l, func(a, b *big.Rat) bool { return a.Cmp(b) == 0 })
}

func middle(a, b *big.Rat) *big.Rat { return times(plus(a, b), big.NewRat(1, 2)) }

// hides reports whether the solid hides a point.
func (m *model) hides(p, toward point) bool {
	l := steps(m.crossings(p, toward), new(big.Rat), nil)
	for i := 1; i < len(l); i++ {
		if m.around(p.ahead(middle(l[i-1], l[i]), toward)) == "all" {
			return true
		}
	}
	return false
}

// scene are solids in a view.
type scene struct {
	models []*model
	v      [3]point
	toward point
}

func sceneOf(solids []api.Solid, v api.View) scene {
	s := scene{v: [3]point{pointOf(v.Origin), pointOf(v.Right), pointOf(v.Up)}}
	s.toward = s.v[1].cross(s.v[2])
	for _, one := range solids {
		s.models = append(s.models, modelOf(one))
	}
	return s
}

// place returns the place of a point, with the third coordinate 0.
func (s scene) place(p point) point {
	way := p.minus(s.v[0])
	return point{over(s.v[1].dot(way), s.v[1].dot(s.v[1])), over(s.v[2].dot(way), s.v[2].dot(s.v[2])), new(big.Rat)}
}

func (s scene) hides(p point) bool {
	return slices.ContainsFunc(s.models, func(m *model) bool { return m.hides(p, s.toward) })
}

// piece is a part of a line, in space or on the paper, between breaks.
type piece struct {
	from, to point
	kind     string
}

// pieces returns the parts of an edge between breaks, with the kind of a point in the middle, but for those without a kind.
func pieces(e [2]point, breaks []*big.Rat, kind func(p point) string) []piece {
	var all []piece
	way := e[1].minus(e[0])
	l := steps(breaks, new(big.Rat), big.NewRat(1, 1))
	for i := 1; i < len(l); i++ {
		if k := kind(e[0].ahead(middle(l[i-1], l[i]), way)); k != "" {
			all = append(all, piece{e[0].ahead(l[i-1], way), e[0].ahead(l[i], way), k})
		}
	}
	return all
}

// lineOf returns a text that is the same for pieces on the same line, and the number of a coordinate that ascends there.
func lineOf(a, b point) (string, int) {
	way := b.minus(a)
	axis := slices.IndexFunc(way[:], func(x *big.Rat) bool { return x.Sign() != 0 })
	way = point{}.zero().ahead(over(big.NewRat(1, 1), way[axis]), way)
	foot := a.ahead(new(big.Rat).Neg(a[axis]), way)
	words := []string{}
	for _, x := range slices.Concat(way[:], foot[:]) {
		words = append(words, x.RatString())
	}
	return strings.Join(words, " "), axis
}

func (point) zero() point { return point{new(big.Rat), new(big.Rat), new(big.Rat)} }

// joined returns the longest pieces of the same kind on each line. Where there are several kinds, the last one in the alphabet is what is seen.
func joined(all []piece) []piece {
	groups := map[string][]piece{}
	for _, p := range all {
		name, _ := lineOf(p.from, p.to)
		if p.from.compare(p.to) > 0 {
			p.from, p.to = p.to, p.from
		}
		groups[name] = append(groups[name], p)
	}
	var longest []piece
	for _, group := range groups {
		longest = append(longest, joinedOnLine(group)...)
	}
	slices.SortFunc(longest, func(p, q piece) int { return cmp.Or(p.from.compare(q.from), p.to.compare(q.to)) })
	return longest
}

func joinedOnLine(group []piece) []piece {
	var ends []point
	for _, p := range group {
		ends = append(ends, p.from, p.to)
	}
	slices.SortFunc(ends, point.compare)
	var l []piece
	for i := 1; i < len(ends); i++ {
		kind := ""
		for _, p := range group {
			if p.from.compare(ends[i-1]) <= 0 && p.to.compare(ends[i]) >= 0 && ends[i-1].compare(ends[i]) != 0 {
				kind = max(kind, p.kind)
			}
		}
		last := len(l) - 1
		switch {
		case kind == "":
		case last >= 0 && l[last].kind == kind && l[last].to.compare(ends[i-1]) == 0:
			l[last].to = ends[i]
		default:
			l = append(l, piece{ends[i-1], ends[i], kind})
		}
	}
	return l
}

// edges returns the edges of the solid.
func (m *model) edges() [][2]api.Vec {
	var all []piece
	for _, c := range m.cells {
		for _, e := range c.edges {
			all = append(all, pieces(e, m.crossings(e[0], e[1].minus(e[0])), m.kindOfEdge)...)
		}
	}
	var l [][2]api.Vec
	for _, p := range joined(all) {
		l = append(l, [2]api.Vec{p.from.vec(), p.to.vec()})
	}
	return l
}

// kindOfEdge tells points of edges of bodies that are drawn.
func (m *model) kindOfEdge(p point) string {
	if m.around(p) == "edge" {
		return "edge"
	}
	return ""
}

// meetings returns the shares of an edge at which its place may meet those of other edges.
func (s scene) meetings(e [2]point) []*big.Rat {
	var l []*big.Rat
	a, b := s.place(e[0]), s.place(e[1])
	for _, m := range s.models {
		for _, c := range m.cells {
			for _, other := range c.edges {
				p, q := s.place(other[0]), s.place(other[1])
				n := q.minus(p).cross(point{}.zero().ahead(big.NewRat(1, 1), point{new(big.Rat), new(big.Rat), big.NewRat(1, 1)}))
				if climb := n.dot(b.minus(a)); climb.Sign() != 0 {
					l = append(l, over(n.dot(p.minus(a)), climb))
				}
			}
		}
	}
	return l
}

// drawing returns the drawing of the scene.
func (s scene) drawing() []api.Line {
	var all []piece
	for _, own := range s.models {
		for _, c := range own.cells {
			for _, e := range c.edges {
				all = append(all, s.piecesOf(own, e)...)
			}
		}
	}
	var l []api.Line
	for _, p := range joined(all) {
		from, to := p.from.vec(), p.to.vec()
		l = append(l, api.Line{From: [2]api.Rat(from[:2]), To: [2]api.Rat(to[:2]), Hidden: p.kind == "hidden"})
	}
	return l
}

// piecesOf returns the places of the drawn parts of an edge.
func (s scene) piecesOf(own *model, e [2]point) []piece {
	if s.place(e[0]).compare(s.place(e[1])) == 0 {
		return nil
	}
	breaks := s.meetings(e)
	for _, m := range s.models {
		breaks = append(breaks, m.crossings(e[0], e[1].minus(e[0]))...)
	}
	all := pieces(e, breaks, func(p point) string {
		switch {
		case own.around(p) != "edge":
			return ""
		case s.hides(p):
			return "hidden"
		}
		return "visible"
	})
	for i, p := range all {
		all[i] = piece{s.place(p.from), s.place(p.to), p.kind}
	}
	return all
}
