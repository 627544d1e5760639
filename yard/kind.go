package yard

import (
	"trunnel/api"
	"trunnel/space"
)

// Where the lines of a kind may stand.
const (
	anywhere = iota
	outside  // of bents
	inside   // a bent
)

// kind is a kind of lines.
type kind struct {
	names, values int
	stands        int
	run           func(s *site, l Line) api.Errno // what a line does on a site, or its error
}

// kinds returns the kinds of lines by their names.
func kinds() map[string]kind {
	return map[string]kind{
		"param":      {1, 1, outside, (*site).param},
		"member":     {1, 15, anywhere, timber(given)},
		"post":       {1, 6, anywhere, timber(fixed([3]int{0, 0, 1}, [3]int{1, 0, 0}, [3]int{0, 1, 0}))},
		"beam":       {1, 6, anywhere, timber(fixed([3]int{1, 0, 0}, [3]int{0, 1, 0}, [3]int{0, 0, 1}))},
		"plate":      {1, 6, anywhere, timber(fixed([3]int{0, 1, 0}, [3]int{0, 0, 1}, [3]int{1, 0, 0}))},
		"brace":      {1, 8, anywhere, timber(brace)},
		"rafter":     {1, 8, anywhere, timber(rafter)},
		"housing":    {2, 0, anywhere, (*site).joint},
		"birdsmouth": {2, 0, anywhere, (*site).joint},
		"tenon":      {2, 6, anywhere, (*site).joint},
		"lap":        {2, 2, anywhere, (*site).joint},
		"scarf":      {2, 2, anywhere, (*site).joint},
		"dovetail":   {2, 7, anywhere, (*site).joint},
		"peg":        {2, 5, anywhere, (*site).joint},
		"bent":       {1, 0, outside, (*site).bent},
		"end":        {0, 0, inside, (*site).end},
		"place":      {2, 3, outside, (*site).place},
		"row":        {2, 4, outside, (*site).row},
	}
}

// mayStand reports whether a line of a kind may stand in a bent, or out of one.
func (k kind) mayStand(inBent bool) bool {
	return k.stands == anywhere || inBent == (k.stands == inside)
}

// axes returns the axes of a member, by the values between its origin and its size.
type axes func(v ...space.Number) [3]space.Vector

// given returns the axes whose coordinates are the values.
func given(v ...space.Number) [3]space.Vector {
	return [3]space.Vector{space.Vector(v[0:3]), space.Vector(v[3:6]), space.Vector(v[6:9])}
}

// fixed returns axes that do not depend on values.
func fixed(x, y, z [3]int) axes {
	return func(...space.Number) [3]space.Vector {
		return [3]space.Vector{space.Integers(x), space.Integers(y), space.Integers(z)}
	}
}

// brace returns the axes of a member that rises along x.
func brace(v ...space.Number) [3]space.Vector {
	run, rise, one := v[0], v[1], space.Integer(1)
	return [3]space.Vector{{run, {}, rise}, {{}, one, {}}, {rise.Negated(), {}, run}}
}

// rafter returns the axes of a member that rises along y.
func rafter(v ...space.Number) [3]space.Vector {
	run, rise, one := v[0], v[1], space.Integer(1)
	return [3]space.Vector{{{}, run, rise}, {one, {}, {}}, {{}, rise, run.Negated()}}
}

// timber returns what the lines of members do that have such axes.
func timber(of axes) func(s *site, l Line) api.Errno {
	return func(s *site, l Line) api.Errno {
		v, e := s.evaluate(l.Values)
		if e != api.OK {
			return e
		}
		behind := len(v) - 3
		directions := of(v[3:behind]...)
		m := member{origin: space.Vector(v[:3])}
		m.Name = l.Names[0]
		m.Frame.X, m.Frame.Y, m.Frame.Z = texts(directions[0]), texts(directions[1]), texts(directions[2])
		m.Size = texts(space.Vector(v[behind:]))
		s.here.members = append(s.here.members, m)
		return api.OK
	}
}

// texts returns the texts of a vector of any size.
func texts(v space.Vector) api.Vec {
	return api.Vec{api.Rat(v[0].Text()), api.Rat(v[1].Text()), api.Rat(v[2].Text())}
}
