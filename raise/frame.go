package raise

import (
	"trunnel/api"
	"trunnel/joint"
	"trunnel/solid"
	"trunnel/space"
)

// frame is what is known of timbers whose members are finished.
type frame struct {
	members []member
	joined  [][]int // the members that have a joint with each member
	count   int     // of the directions
	blocks  func(w way) bool
	tumbles func(s stage) []stage // the parts of a stage that stand on props alone
}

// way is a member on its way in a direction, and another one that may block it.
type way struct {
	member, direction, other int
}

// member is what is known of a member. Its facts are found when they are asked for first, since no function needs all of them.
type member struct {
	name            string
	blank, finished func() solid.Bodies
	paths           func(direction int) pathsOf
	volume          func() space.Number
	moment          func() space.Vector // the centre of mass times the volume
	feet            func() []point
}

// kept returns a function that finds each fact once.
func kept[K comparable, V any](find func(K) V) func(K) V {
	facts := map[K]V{}
	return func(key K) V {
		fact, ok := facts[key]
		if !ok {
			fact = find(key)
			facts[key] = fact
		}
		return fact
	}
}

// once returns a function that finds its fact once.
func once[V any](find func() V) func() V {
	fact := kept(func(struct{}) V { return find() })
	return func() V { return fact(struct{}{}) }
}

// finish returns the frame of the timbers. The error is that of the arguments, or else that of the first member
// that cannot be finished.
func (a *arguments) finish() (*frame, api.Errno) {
	if a.err != api.OK {
		return nil, a.err
	}
	f := &frame{joined: joined(a.timbers), count: len(a.directions)}
	for k := range a.timbers.Members {
		finished, e := joint.Finished(a.timbers, k)
		if e != api.OK {
			return nil, e
		}
		f.members = append(f.members, a.member(k, finished))
	}
	f.blocks = kept(f.findBlocks)
	f.tumbles = kept(f.findTumbles)
	return f, api.OK
}

// member returns a member with its facts.
func (a *arguments) member(k int, finished api.Solid) member {
	m := member{name: a.timbers.Members[k].Name}
	m.blank = once(func() solid.Bodies {
		blank, _ := joint.Blank(a.timbers.Members[k])
		return bodies(blank)
	})
	m.finished = once(func() solid.Bodies { return bodies(finished) })
	m.paths = kept(func(direction int) pathsOf {
		d := a.directions[direction]
		return pathsOf{paths(m.blank(), d), paths(m.finished(), d)}
	})
	m.volume = once(func() space.Number { return m.finished().Volume() })
	m.moment = once(func() space.Vector { return m.finished().Moment() })
	m.feet = once(func() []point { return hull(grounded(m.finished())) })
	return m
}

// bodies returns the bodies of a solid without errors.
func bodies(s api.Solid) solid.Bodies {
	b, _ := solid.Read(s)
	return b
}

// all returns the stage of all members.
func (f *frame) all() stage {
	var s stage
	for k := range f.members {
		s[k] = true
	}
	return s
}

// write returns moves with the names of their members.
func (f *frame) write(l []move) []api.Move {
	moves := make([]api.Move, len(l))
	for i, m := range l {
		moves[i] = api.Move{Member: f.members[m.member].name, Direction: m.direction}
	}
	return moves
}
