package raise

import "trunnel/api"

// checkOrder returns the error of moves as an order of raising with props.
func (f *frame) checkOrder(l []move, props stage) api.Errno {
	var s stage
	for _, m := range l {
		if !f.isFree(m.member, m.direction, s) {
			return api.ErrBlocked
		}
		s = s.with(m.member)
		if !f.stands(s, props) {
			return api.ErrFalls
		}
	}
	if s != f.all() {
		return api.ErrNone
	}
	return api.OK
}

// order returns the first order of raising with props, and whether there is one.
func (f *frame) order(props stage) ([]move, bool) {
	var order []move
	stuck := map[stage]bool{} // behind these there is no way to the end
	var visit func(s stage) bool
	visit = func(s stage) bool {
		if s == f.all() {
			return true
		}
		if stuck[s] {
			return false
		}
		for k := range f.members {
			if s[k] {
				continue
			}
			m, isFree := f.firstMove(k, s)
			if next := s.with(k); isFree && f.stands(next, props) {
				order = append(order, m)
				if visit(next) {
					return true
				}
				order = order[:len(order)-1]
			}
		}
		stuck[s] = true
		return false
	}
	isOrder := visit(stage{})
	return order, isOrder
}

// larger returns the sets of members, in lexicographic order, that have one more member than given ones,
// which are all those of one size in lexicographic order.
func (f *frame) larger(sets []stage) []stage {
	var all []stage
	for _, s := range sets {
		// Each set comes from the one without its greatest member.
		for k := s.greatest() + 1; k < len(f.members); k++ {
			all = append(all, s.with(k))
		}
	}
	return all
}

// props returns the first one of the smallest sets of props with which there is an order of raising, and this order.
// There is one unless the members are blocked, since every stage stands with props at all of its members.
func (f *frame) props() (props stage, order []move) {
	sets := []stage{{}}
search:
	for len(sets) > 0 {
		for _, props = range sets {
			var ok bool
			if order, ok = f.order(props); ok {
				break search
			}
		}
		sets = f.larger(sets)
	}
	return props, order
}
