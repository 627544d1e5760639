package yard

import (
	"slices"
	"strconv"

	"trunnel/api"
	"trunnel/joint"
	"trunnel/space"
)

// member is a member whose origin is not written yet: it may still be shifted, and has no limits until then.
type member struct {
	api.Member
	origin space.Vector
}

// pile is a list of members, and one of joints.
type pile struct {
	members []member
	joints  []api.Joint
}

// site is what the lines of a plan have built so far.
type site struct {
	names  []string // of the parameters
	params meanings
	bents  map[string]*pile
	frame  pile
	here   *pile // the frame, or the bent in which the lines stand
}

// build returns the site behind lines, or the first error of one.
func build(lines []Line) (*site, api.Errno) {
	s := &site{params: meanings{}, bents: map[string]*pile{}}
	s.here = &s.frame
	known := kinds()
	for _, l := range lines {
		if e := known[l.Kind].run(s, l); e != api.OK {
			return nil, e
		}
	}
	return s, api.OK
}

// Params returns the parameters of a plan, and their values.
func Params(p Plan) ([]string, []api.Rat, api.Errno) {
	if e := CheckPlan(p); e != api.OK {
		return nil, nil, e
	}
	others := func(l Line) bool { return l.Kind != "param" }
	s, e := build(slices.DeleteFunc(slices.Clone(p.Lines), others))
	if e != api.OK {
		return nil, nil, e
	}
	value := func(name string) api.Rat { return api.Rat(s.params[name].Text()) }
	return s.names, mapped(s.names, value), api.OK
}

// Expand returns the timbers of a plan.
func Expand(p Plan) (api.Timbers, api.Errno) {
	if e := CheckPlan(p); e != api.OK {
		return api.Timbers{}, e
	}
	s, e := build(p.Lines)
	if e != api.OK {
		return api.Timbers{}, e
	}
	return checked(s.frame.timbers())
}

// timbers returns the members and joints of a pile.
func (p pile) timbers() api.Timbers {
	written := func(m member) api.Member {
		m.Frame.Origin = texts(m.origin)
		return m.Member
	}
	return api.Timbers{Members: mapped(p.members, written), Joints: p.joints}
}

// checked returns timbers that were made of others, or their error.
func checked(t api.Timbers) (api.Timbers, api.Errno) {
	if len(t.Members) > api.MaxMembers || len(t.Joints) > api.MaxJoints {
		return api.Timbers{}, api.ErrMany
	}
	if e := joint.CheckTimbers(t); e != api.OK {
		return api.Timbers{}, e
	}
	return t, api.OK
}

// evaluate returns the values of expressions, or the first error of one.
func (s *site) evaluate(values []Expr) ([]space.Number, api.Errno) {
	var numbers []space.Number
	for _, value := range values {
		number, e := s.params.limited(value)
		if e != api.OK {
			return nil, e
		}
		numbers = append(numbers, number)
	}
	return numbers, api.OK
}

func (s *site) param(l Line) api.Errno {
	name := l.Names[0]
	if _, twice := s.params[name]; twice {
		return api.ErrTwice
	}
	v, e := s.evaluate(l.Values)
	if e != api.OK {
		return e
	}
	s.names, s.params[name] = append(s.names, name), v[0]
	return api.OK
}

func (s *site) joint(l Line) api.Errno {
	v, e := s.evaluate(l.Values)
	if e != api.OK {
		return e
	}
	written := func(x space.Number) api.Rat { return api.Rat(x.Text()) }
	j := api.Joint{Kind: l.Kind, A: l.Names[0], B: l.Names[1], Numbers: mapped(v, written)}
	s.here.joints = append(s.here.joints, j)
	return api.OK
}

func (s *site) bent(l Line) api.Errno {
	name := l.Names[0]
	if s.bents[name] != nil {
		return api.ErrTwice
	}
	s.here = &pile{}
	s.bents[name] = s.here
	return api.OK
}

func (s *site) end(Line) api.Errno {
	s.here = &s.frame
	return api.OK
}

func (s *site) place(l Line) api.Errno {
	bent, v, e := s.placed(l)
	if e != api.OK {
		return e
	}
	return s.put(bent, l.Names[1], space.Vector(v))
}

func (s *site) row(l Line) api.Errno {
	bent, v, e := s.placed(l)
	if e != api.OK {
		return e
	}
	count, err := strconv.Atoi(v[0].Text())
	if err != nil || count < 1 || count > api.MaxMembers {
		return api.ErrRange
	}
	shift := space.Vector(v[1:])
	for k := range count {
		if e := s.put(bent, l.Names[1]+strconv.Itoa(k+1), shift.Scaled(space.Integer(k))); e != api.OK {
			return e
		}
	}
	return api.OK
}

// placed returns the bent that a line places, and the values of the line.
func (s *site) placed(l Line) (*pile, []space.Number, api.Errno) {
	bent := s.bents[l.Names[0]]
	if bent == nil {
		return nil, nil, api.ErrUnknown
	}
	v, e := s.evaluate(l.Values)
	return bent, v, e
}

// put places a bent in the frame, or returns ErrName if a name with the prefix is none.
// If there are more than there may be, one more is kept, which tells of them all.
func (s *site) put(bent *pile, prefix string, shift space.Vector) api.Errno {
	for _, m := range bent.members {
		m.Name = prefix + "_" + m.Name
		if !space.IsName(m.Name) {
			return api.ErrName
		}
		if len(s.frame.members) <= api.MaxMembers {
			m.origin = m.origin.Plus(shift)
			s.frame.members = append(s.frame.members, m)
		}
	}
	for _, j := range bent.joints {
		j.A, j.B = prefix+"_"+j.A, prefix+"_"+j.B
		if !space.IsName(j.A) || !space.IsName(j.B) {
			return api.ErrName
		}
		if len(s.frame.joints) <= api.MaxJoints {
			j.Numbers = slices.Clone(j.Numbers)
			s.frame.joints = append(s.frame.joints, j)
		}
	}
	return api.OK
}
