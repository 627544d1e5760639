package joint

import (
	"slices"

	"trunnel/api"
	"trunnel/solid"
	"trunnel/space"
)

// piece is a member, as its blank and finished, or a peg, which is finished from the beginning.
type piece struct {
	blank, finished solid.Bodies
}

// bodies returns the bodies of a solid without errors.
func bodies(s api.Solid) solid.Bodies {
	b, _ := solid.Read(s)
	return b
}

// piece returns the piece of a finished member.
func (t timbers) piece(k int, finished api.Solid) piece {
	return piece{bodies(t.blanks[k]), bodies(finished)}
}

// share returns the part of the section of a blank in a half-space that is left when it is finished.
func (p piece) share(h space.Half) space.Number {
	// Both area vectors have the same direction.
	section := p.blank.Section(h)
	return p.finished.Section(h).Dot(section).Over(section.Square())
}

// grain is the line along which the x of a frame is counted.
type grain struct {
	origin, x space.Vector
}

// grain returns the grain of a member.
func (t timbers) grain(k int) grain {
	f := t.members[k].Frame
	return grain{vector(f.Origin), vector(f.X)}
}

// place returns the x of a point.
func (g grain) place(p space.Vector) space.Number {
	return p.Minus(g.origin).Dot(g.x).Over(g.x.Square())
}

// upTo returns the half-space of the points with an x of at most a place.
func (g grain) upTo(place space.Number) space.Half {
	return space.Half{N: g.x, D: g.x.Dot(g.origin.Plus(g.x.Scaled(place)))}
}

// middles returns the middles of a member.
func (t timbers) middles(k int) []space.Number {
	changes := []api.Solid{t.blanks[k]}
	for i, side := range t.jointsOf(k) {
		changes = append(changes, t.works[i].changes[side]...)
	}
	var places []space.Number
	for _, s := range changes {
		for p := range bodies(s).Corners() {
			places = append(places, t.grain(k).place(p))
		}
	}
	slices.SortFunc(places, space.Number.Compare)
	places = slices.CompactFunc(places, func(a, b space.Number) bool { return a.Compare(b) == 0 })
	middles := make([]space.Number, len(places)-1)
	for i := range middles {
		middles[i] = places[i].Plus(places[i+1]).Over(space.Integer(2))
	}
	return middles
}

// weakest returns the first middle of a finished member with the least share, and this.
func (t timbers) weakest(k int, p piece) (place, least space.Number) {
	for i, middle := range t.middles(k) {
		share := p.share(t.grain(k).upTo(middle))
		if i == 0 || share.Compare(least) < 0 {
			place, least = middle, share
		}
	}
	return place, least
}

// Section returns the share of the section of a member that is left at a place.
func Section(t api.Timbers, k int, at api.Rat) (api.Rat, api.Errno) {
	r, e := readMember(t, k)
	if e != api.OK {
		return "", e
	}
	place, e := space.ReadNumber(at)
	if e != api.OK {
		return "", e
	}
	m := r.members[k]
	if place.Sign() <= 0 || place.Compare(vector(m.Size)[0]) > 0 {
		return "", api.ErrRange
	}
	finished, e := r.finish(k)
	if e != api.OK {
		return "", e
	}
	if _, e := space.PlaceHalf(m.Frame, api.Half{N: [3]int{1, 0, 0}, D: at}); e != api.OK {
		return "", e
	}
	return r.piece(k, finished[0]).share(r.grain(k).upTo(place)).Write()
}

// Weakest returns the place with the least share of the section, and this.
func Weakest(t api.Timbers, k int) (api.Rat, api.Rat, api.Errno) {
	r, e := readMember(t, k)
	if e != api.OK {
		return "", "", e
	}
	finished, e := r.finish(k)
	if e != api.OK {
		return "", "", e
	}
	if len(finished[0]) == 0 {
		return "", "", api.ErrEmpty
	}
	place, least := r.weakest(k, r.piece(k, finished[0]))
	at, e := place.Write()
	if e != api.OK {
		return "", "", e
	}
	share, e := least.Write()
	if e != api.OK {
		return "", "", e
	}
	return at, share, api.OK
}

// Weight returns the volume of all finished members and pegs.
func Weight(t api.Timbers) (api.Rat, api.Errno) {
	r, e := readTimbers(t)
	if e != api.OK {
		return "", e
	}
	members, pegs, e := r.all()
	if e != api.OK {
		return "", e
	}
	var weight space.Number
	for _, s := range slices.Concat(members, pegs) {
		weight = weight.Plus(bodies(s).Volume())
	}
	return weight.Write()
}

// Edges returns the least distance of a peg from the edges of its first member, in radii.
func Edges(t api.Timbers, i int) (api.Rat, api.Errno) {
	r, j, e := readPeg(t, i)
	if e != api.OK {
		return "", e
	}
	return r.edges(j).Write()
}

// edges returns the least distance of a peg from the edges of A, in radii.
func (t timbers) edges(peg joint) space.Number {
	size := vector(t.members[peg.sides[0]].Size)
	x, z, r := peg.numbers[0], peg.numbers[1], peg.numbers[2]
	least := slices.MinFunc([]space.Number{x, size[0].Minus(x), z, size[2].Minus(z)}, space.Number.Compare)
	return least.Minus(r).Over(r)
}
