package cut

import (
	"trunnel/api"
	"trunnel/joint"
	"trunnel/space"
)

// face is the number of a face of a member.
type face int

const (
	top face = iota
	bottom
	left
	right
	start
	end
	faceCount
)

// side says where a face is.
type side struct {
	name   string
	axis   int    // the axis across which it lies
	isFar  bool   // whether it lies at the far end of this axis
	own    [2]int // the axes of its own coordinates
	turned face   // what it becomes if the member is turned
}

var sides = [faceCount]side{
	top:    {"top", 2, true, [2]int{0, 1}, top},
	bottom: {"bottom", 2, false, [2]int{0, 1}, bottom},
	left:   {"left", 1, false, [2]int{0, 2}, right},
	right:  {"right", 1, true, [2]int{0, 2}, left},
	start:  {"start", 0, false, [2]int{1, 2}, end},
	end:    {"end", 0, true, [2]int{1, 2}, start},
}

// findFace returns the face with a name, and whether there is one.
func findFace(name string) (face, bool) {
	for f, s := range sides {
		if s.name == name {
			return face(f), true
		}
	}
	return 0, false
}

// placed returns the half-space of a face of a member.
func (f face) placed(m api.Member) (api.Half, api.Errno) {
	s := sides[f]
	h := api.Half{D: "0"}
	if s.isFar {
		h.N[s.axis], h.D = 1, m.Size[s.axis]
	} else {
		h.N[s.axis] = -1
	}
	return space.PlaceHalf(m.Frame, h)
}

// planes returns the half-spaces of the faces of a member, which has no errors: they are those of its blank.
func planes(m api.Member) [faceCount]api.Half {
	var halves [faceCount]api.Half
	for f := range halves {
		halves[f], _ = face(f).placed(m)
	}
	return halves
}

// Faces returns the names of the faces of a member.
func Faces() []string {
	names := make([]string, faceCount)
	for f, s := range sides {
		names[f] = s.name
	}
	return names
}

// Face returns the half-space of a member behind a face.
func Face(m api.Member, face string) (api.Half, api.Errno) {
	if e := joint.CheckMember(m); e != api.OK {
		return api.Half{}, e
	}
	f, ok := findFace(face)
	if !ok {
		return api.Half{}, api.ErrUnknown
	}
	return f.placed(m)
}
