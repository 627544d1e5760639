package yard

import (
	"cmp"
	"iter"
	"slices"

	"trunnel/api"
)

// book tells of accepted events. It is a value: a further event makes a new one.
type book struct {
	count int   // of the events
	last  *deed // what the last event that counts has done
}

// deed is an event that counts, with what it has done.
type deed struct {
	before  *deed // the one before it
	event   api.Event
	version int         // that the branch, the first one of its names, has behind it; 0 for a note
	parents []int       // of its own version, if it makes one
	timbers api.Timbers // of its own version
}

// isVersion reports whether an event makes a version.
func (d *deed) isVersion() bool { return d.version == d.event.Number }

// counting goes through the events that count, from the last one to the first one.
func (b book) counting() iter.Seq[*deed] {
	return func(yield func(*deed) bool) {
		for d := b.last; d != nil; d = d.before {
			if !yield(d) {
				return
			}
		}
	}
}

// with returns a book with a further event, or its error.
func (b book) with(e api.Event) (book, api.Errno) {
	if err := CheckEvent(e); err != api.OK {
		return book{}, err
	}
	if b.count == api.MaxEvents {
		return book{}, api.ErrMany
	}
	if e.Number != b.count+1 {
		return book{}, api.ErrOrder
	}
	last, err := eventKinds()[e.Kind].happen(b, e)
	if err != api.OK {
		return book{}, err
	}
	return book{e.Number, last}, api.OK
}

func (b book) draw(e api.Event) (*deed, api.Errno) {
	plan, _, err := Read(e.Text)
	if err != api.OK {
		return nil, err
	}
	timbers, err := Expand(plan)
	if err != api.OK {
		return nil, err
	}
	d := &deed{before: b.last, event: e, version: e.Number, timbers: timbers}
	if before := b.find(e.Names[0]); before > 0 {
		d.parents = []int{before}
	}
	return d, api.OK
}

func (b book) branch(e api.Event) (*deed, api.Errno) {
	if b.find(e.Names[0]) > 0 {
		return nil, api.ErrTwice
	}
	version := b.find(e.Names[1])
	if version == 0 {
		return nil, api.ErrUnknown
	}
	return &deed{before: b.last, event: e, version: version}, api.OK
}

func (b book) merge(e api.Event) (*deed, api.Errno) {
	into, from := b.find(e.Names[0]), b.find(e.Names[1])
	if into == 0 || from == 0 {
		return nil, api.ErrUnknown
	}
	base := b.base(into, from)
	if base == from {
		return nil, api.ErrNone
	}
	timbers, _, err := merge(b.timbers(base), b.timbers(into), b.timbers(from))
	if err != api.OK {
		return nil, err
	}
	return &deed{b.last, e, e.Number, []int{into, from}, timbers}, api.OK
}

func (b book) note(e api.Event) (*deed, api.Errno) {
	return &deed{before: b.last, event: e}, api.OK
}

func (b book) undo(api.Event) (*deed, api.Errno) {
	if b.last == nil {
		return nil, api.ErrEmpty
	}
	return b.last.before, api.OK
}

// find returns the number of the version of a branch, or 0 if there is no such branch.
func (b book) find(branch string) int {
	for d := range b.counting() {
		if d.version > 0 && d.event.Names[0] == branch {
			return d.version
		}
	}
	return 0
}

// made returns the event that made a version, or nil if there is none with this number.
func (b book) made(version int) *deed {
	for d := range b.counting() {
		if d.isVersion() && d.version == version {
			return d
		}
	}
	return nil
}

// timbers returns the timbers of a version; there are none in the version 0.
func (b book) timbers(version int) api.Timbers {
	if d := b.made(version); d != nil {
		return d.timbers
	}
	return api.Timbers{}
}

// sources returns the versions from which a version comes.
func (b book) sources(version int) map[int]bool {
	sources := map[int]bool{version: true}
	for d := range b.counting() {
		if sources[d.event.Number] {
			for _, parent := range d.parents {
				sources[parent] = true
			}
		}
	}
	return sources
}

// base returns the last version from which all versions of a list come, or 0.
func (b book) base(versions ...int) int {
	all := mapped(versions, b.sources)
search:
	for d := range b.counting() {
		for _, sources := range all {
			if !sources[d.event.Number] {
				continue search
			}
		}
		return d.event.Number
	}
	return 0
}

// project returns the project behind the events. It shares memory with the book.
func (b book) project() Project {
	var p Project
	isKnown := map[string]bool{}
	for d := range b.counting() {
		if d.event.Kind == "note" {
			p.Notes = append(p.Notes, d.event.Text)
			continue
		}
		if d.isVersion() {
			p.Versions = append(p.Versions, Version{d.version, d.parents, d.timbers})
		}
		if name := d.event.Names[0]; !isKnown[name] {
			isKnown[name] = true
			p.Branches = append(p.Branches, Branch{name, d.version})
		}
	}
	slices.Reverse(p.Notes)
	slices.Reverse(p.Versions)
	slices.SortFunc(p.Branches, func(x, y Branch) int { return cmp.Compare(x.Name, y.Name) })
	return p
}

// replay returns the book with events, or the place of the first one with an error.
func replay(l []api.Event) (book, int, api.Errno) {
	if len(l) > api.MaxEvents {
		return book{}, 0, api.ErrMany
	}
	var b book
	for i, e := range l {
		next, err := b.with(e)
		if err != api.OK {
			return book{}, i + 1, err
		}
		b = next
	}
	return b, 0, api.OK
}

// Replay returns the project behind some events.
func Replay(l []api.Event) (Project, int, api.Errno) {
	b, place, e := replay(l)
	if e != api.OK {
		return Project{}, place, e
	}
	return b.project(), 0, api.OK
}

// Accepts returns the error with which an event is not accepted behind others.
func Accepts(l []api.Event, e api.Event) api.Errno {
	b, _, err := replay(l)
	if err != api.OK {
		return err
	}
	_, err = b.with(e)
	return err
}

// Base returns the nearest version from which two versions come.
func Base(l []api.Event, a, b int) (int, api.Errno) {
	behind, _, e := replay(l)
	if e != api.OK {
		return 0, e
	}
	if behind.made(a) == nil || behind.made(b) == nil {
		return 0, api.ErrUnknown
	}
	return behind.base(a, b), api.OK
}
