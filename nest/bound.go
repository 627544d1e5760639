package nest

import (
	"cmp"
	"iter"
	"slices"
	"strconv"

	"trunnel/api"
	"trunnel/space"
)

// offer is what a beam offers to a price.
type offer struct{ length, capacity int }

// compare compares offers by the price from which on they are taken, which a beam without a capacity does not have: it
// comes last. (A capacity is at most 6 times MaxNumber, so the products are machine integers.)
func (o offer) compare(other offer) int {
	return cmp.Compare(o.length*other.capacity, other.length*o.capacity)
}

// market is what pieces need, and what a stock offers.
type market struct {
	need   int
	offers []offer
}

func marketOf(beams []api.Beam, pieces []int, kerf int) market {
	m := market{need: need(pieces, kerf)}
	for _, b := range beams {
		m.offers = append(m.offers, offer{b.Length, capacity(b, kerf)})
	}
	return m
}

// value returns the value of a price.
func (m market) value(price space.Number) space.Number {
	value := price.Times(space.Integer(m.need))
	for _, o := range m.offers {
		more := price.Times(space.Integer(o.capacity)).Minus(space.Integer(o.length))
		if more.Sign() > 0 {
			value = value.Minus(more)
		}
	}
	return value
}

// quote is a price with its value.
type quote struct{ price, value space.Number }

func (q quote) compare(other quote) int { return q.value.Compare(other.value) }

// quotes visits 0 and the prices at which the value bends, in ascending order: one of them has the greatest value.
func (m market) quotes() iter.Seq[quote] {
	return func(yield func(quote) bool) {
		if !yield(quote{}) {
			return
		}
		for _, o := range slices.SortedFunc(slices.Values(m.offers), offer.compare) {
			if o.capacity == 0 {
				return
			}
			price := space.Integer(o.length).Over(space.Integer(o.capacity))
			if !yield(quote{price, m.value(price)}) {
				return
			}
		}
	}
}

// greatest returns the first one of the greatest of several, and whether there is one.
func greatest[T any](all iter.Seq[T], compare func(a, b T) int) (best T, isThere bool) {
	for x := range all {
		if !isThere || compare(x, best) > 0 {
			best, isThere = x, true
		}
	}
	return best, isThere
}

// best returns the least price with the greatest value, or ErrInfeasible.
func (m market) best() (quote, api.Errno) {
	left := m.need
	for _, o := range m.offers {
		left -= o.capacity
	}
	if left > 0 {
		return quote{}, api.ErrInfeasible
	}
	q, _ := greatest(m.quotes(), quote.compare)
	return q, api.OK
}

// Value returns a length below which no placing is, by a price.
func Value(beams []api.Beam, pieces []int, kerf int, price api.Rat) (api.Rat, api.Errno) {
	p, errPrice := space.ReadNumber(price)
	if e := cmp.Or(check(beams, pieces, kerf), errPrice); e != api.OK {
		return "", e
	}
	if p.Sign() < 0 {
		return "", api.ErrRange
	}
	return marketOf(beams, pieces, kerf).value(p).Write()
}

// Price returns the price with the greatest value.
func Price(beams []api.Beam, pieces []int, kerf int) (api.Rat, api.Errno) {
	if e := check(beams, pieces, kerf); e != api.OK {
		return "", e
	}
	q, e := marketOf(beams, pieces, kerf).best()
	if e != api.OK {
		return "", e
	}
	return q.price.Write()
}

// Bound returns the greatest length that a price proves.
func Bound(beams []api.Beam, pieces []int, kerf int) (int, api.Errno) {
	if e := check(beams, pieces, kerf); e != api.OK {
		return 0, e
	}
	q, e := marketOf(beams, pieces, kerf).best()
	if e != api.OK {
		return 0, e
	}
	return ceiling(q.value), api.OK
}

// ceiling returns the least integer that is at least a number, which is near enough to 0 for a machine integer.
func ceiling(a space.Number) int {
	text, _ := a.Negated().Write()
	floor, _ := space.Floor(text)
	n, _ := strconv.Atoi(string(floor))
	return -n
}

// Excess returns how much longer than the bound a placing is.
func Excess(beams []api.Beam, pieces []int, kerf int, l []api.Placing) (int, api.Errno) {
	if e := CheckPlacing(beams, pieces, kerf, l); e != api.OK {
		return 0, e
	}
	bound, e := Bound(beams, pieces, kerf)
	if e != api.OK {
		return 0, e
	}
	return lengthOf(beams, l) - bound, api.OK
}
