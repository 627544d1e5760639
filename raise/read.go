package raise

import (
	"cmp"
	"slices"

	"trunnel/api"
	"trunnel/joint"
	"trunnel/space"
)

// arguments are those of a function, read from left to right. Behind the first error nothing more is read.
type arguments struct {
	timbers    api.Timbers
	directions []space.Vector
	err        api.Errno
}

// move is a move without errors: the number of its member, and that of its direction.
type move struct {
	member, direction int
}

// read begins with timbers.
func read(t api.Timbers) *arguments {
	return &arguments{timbers: t, err: joint.CheckTimbers(t)}
}

// isMember reports whether a number is that of a member.
func (a *arguments) isMember(k int) bool { return k >= 0 && k < len(a.timbers.Members) }

func (a *arguments) readDirections(directions []api.Vec) {
	if a.err == api.OK {
		a.directions, a.err = readDirections(directions)
	}
}

func (a *arguments) readMember(k int) {
	if a.err == api.OK && !a.isMember(k) {
		a.err = api.ErrUnknown
	}
}

// readStage returns the stage of a list of members.
func (a *arguments) readStage(list []int) stage {
	var s stage
	if a.err == api.OK && len(list) > api.MaxMembers {
		a.err = api.ErrMany
	}
	for _, k := range list {
		switch {
		case a.err != api.OK:
			return stage{}
		case !a.isMember(k):
			a.err = api.ErrUnknown
		case s[k]:
			a.err = api.ErrTwice
		default:
			s[k] = true
		}
	}
	return s
}

// readMoves returns moves of members.
func (a *arguments) readMoves(moves []api.Move) []move {
	var there stage
	var l []move
	if a.err == api.OK && len(moves) > api.MaxMembers {
		a.err = api.ErrMany
	}
	for _, m := range moves {
		if a.err != api.OK {
			return nil
		}
		k, ok := find(a.timbers, m.Member)
		switch {
		case !ok || m.Direction < 0 || m.Direction >= len(a.directions):
			a.err = api.ErrUnknown
		case there[k]:
			a.err = api.ErrTwice
		default:
			there[k] = true
			l = append(l, move{k, m.Direction})
		}
	}
	return l
}

// checkCount has an error for a list without members.
func (a *arguments) checkCount(list []int) {
	if a.err == api.OK && len(list) == 0 {
		a.err = api.ErrEmpty
	}
}

// checkSearch has an error for more members than an exact search may have.
func (a *arguments) checkSearch() {
	if a.err == api.OK && len(a.timbers.Members) > api.MaxSearch {
		a.err = api.ErrLimit
	}
}

// find returns the number of the member with a name, and whether there is one.
func find(t api.Timbers, name string) (int, bool) {
	k := slices.IndexFunc(t.Members, func(m api.Member) bool { return m.Name == name })
	return k, k >= 0
}

// each returns what an operation makes of the elements of a list, and its first error.
func each[A, B any](list []A, operation func(A) (B, api.Errno)) ([]B, api.Errno) {
	made := make([]B, len(list))
	for i, x := range list {
		var e api.Errno
		if made[i], e = operation(x); e != api.OK {
			return nil, e
		}
	}
	return made, api.OK
}

// readDirections returns directions, and the error of CheckDirections.
func readDirections(directions []api.Vec) ([]space.Vector, api.Errno) {
	switch {
	case len(directions) == 0:
		return nil, api.ErrEmpty
	case len(directions) > api.MaxSearch:
		return nil, api.ErrMany
	}
	return each(directions, readDirection)
}

// readDirection returns a direction, and its error.
func readDirection(d api.Vec) (space.Vector, api.Errno) {
	v, e := space.ReadVec(d)
	if e == api.OK && v.IsZero() {
		e = api.ErrZero
	}
	return v, e
}

// readPoint returns a point, and its error.
func readPoint(p [2]api.Rat) (point, api.Errno) {
	x, errX := space.ReadNumber(p[0])
	y, errY := space.ReadNumber(p[1])
	return point{x, y}, cmp.Or(errX, errY)
}

// readPoints returns points, and their error.
func readPoints(points [][2]api.Rat) ([]point, api.Errno) {
	switch {
	case len(points) == 0:
		return nil, api.ErrEmpty
	case len(points) > api.MaxList:
		return nil, api.ErrMany
	}
	return each(points, readPoint)
}

// readPolygon returns the corners of a polygon, and its error.
func readPolygon(polygon [][2]api.Rat) ([]point, api.Errno) {
	corners, e := readPoints(polygon)
	if e == api.OK && !areSame(hull(corners), corners) {
		e = api.ErrForm
	}
	return corners, e
}

// writePoints returns the texts of points, or ErrLarge.
func writePoints(points []point) ([][2]api.Rat, api.Errno) { return each(points, point.write) }

// write returns the texts of a point, or ErrLarge.
func (p point) write() ([2]api.Rat, api.Errno) {
	x, errX := p[0].Write()
	y, errY := p[1].Write()
	return [2]api.Rat{x, y}, cmp.Or(errX, errY)
}
