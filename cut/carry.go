package cut

import (
	"trunnel/api"
	"trunnel/joint"
	"trunnel/solid"
	"trunnel/space"
)

// errorOf returns the error of a set operation with a result.
func errorOf(b solid.Bodies) api.Errno {
	_, e := b.Write()
	return e
}

// take takes the regions of all cuts from the blank, one after another, unless what one of them has in common with
// what is left then is refused. It returns what is left, and the number of the cuts before the refused one.
func (w work) take(isRefused func(i int, both solid.Bodies) bool) (solid.Bodies, int, api.Errno) {
	rest := w.blank
	for i, region := range w.regions {
		both := rest.And(region)
		if e := errorOf(both); e != api.OK {
			return nil, 0, e
		}
		if isRefused(i, both) {
			return nil, i, api.ErrFace
		}
		rest = rest.Minus(region)
		if e := errorOf(rest); e != api.OK {
			return nil, 0, e
		}
	}
	return rest, len(w.regions), api.OK
}

// takeAll takes the regions of all cuts from the blank.
func (w work) takeAll() (solid.Bodies, api.Errno) {
	rest, _, e := w.take(func(int, solid.Bodies) bool { return false })
	return rest, e
}

// openings returns the openings of all cuts, and the first error of one.
func (w work) openings() ([]space.Vector, api.Errno) {
	openings := make([]space.Vector, len(w.steps))
	for i, region := range w.regions {
		openings[i] = w.open(i, region)
		if _, e := openings[i].Write(); e != api.OK {
			return nil, e
		}
	}
	return openings, api.OK
}

// Cuts returns what is left of a member behind the cuts of a list, whatever their order.
func Cuts(m api.Member, l []api.Cut) (api.Solid, api.Errno) {
	w, e := layOut(m, l)
	if e != api.OK {
		return nil, e
	}
	rest, e := w.takeAll()
	if e != api.OK {
		return nil, e
	}
	return rest.Write()
}

// Carry carries out a list, and returns what is left.
func Carry(m api.Member, l []api.Cut) (api.Solid, int, api.Errno) {
	w, e := layOut(m, l)
	if e != api.OK {
		return nil, 0, e
	}
	openings, e := w.openings()
	if e != api.OK {
		return nil, 0, e
	}
	rest, count, e := w.take(func(i int, both solid.Bodies) bool {
		return openings[i].IsZero() || !w.open(i, both).Minus(openings[i]).IsZero()
	})
	if e != api.OK {
		return nil, count, e
	}
	s, e := rest.Write()
	return s, count, e
}

// Rebuilds reports whether a list yields the finished member.
func Rebuilds(t api.Timbers, k int, l []api.Cut) (bool, api.Errno) {
	if e := checkNumber(t, k); e != api.OK {
		return false, e
	}
	if _, e := readList(l); e != api.OK {
		return false, e
	}
	finished, e := joint.Finished(t, k)
	if e != api.OK {
		return false, e
	}
	rest, _, e := Carry(t.Members[k], l)
	switch e {
	case api.OK:
		return solid.Same(rest, finished)
	case api.ErrFace:
		return false, api.OK
	}
	return false, e
}

// Waste returns the volume of the wood that a list takes away.
func Waste(m api.Member, l []api.Cut) (api.Rat, api.Errno) {
	w, e := layOut(m, l)
	if e != api.OK {
		return "", e
	}
	rest, e := w.takeAll()
	if e != api.OK {
		return "", e
	}
	return w.blank.Volume().Minus(rest.Volume()).Write()
}
