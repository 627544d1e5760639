package nest_test

import (
	"math/big"
	"slices"
	"testing"

	"trunnel/api"
	"trunnel/nest"
)

// P6.3

func TestValue(t *testing.T) {
	spoilt := []api.Beam{bar(10, [2]int{0, 10})}
	for _, row := range []struct {
		what         string
		beams        []api.Beam
		pieces       []int
		kerf         int
		price, value api.Rat
		e            api.Errno
	}{
		{"the price 0", stock(), parts(), 5, "0", "0", api.OK},
		{"a low price", stock(), parts(), 5, "1/2", "115/2", api.OK},
		{"the ratio of a beam", stock(), parts(), 5, "12/13", "1380/13", api.OK},
		{"the price 1", stock(), parts(), 5, "1", "110", api.OK},
		{"the price 2", stock(), parts(), 5, "2", "60", api.OK},
		{"a high price", stock(), parts(), 5, "100", "-4840", api.OK},
		{"nothing", stock(), nil, 5, "2", "-170", api.OK},
		{"no stock", nil, parts(), 5, "3/2", "345/2", api.OK},
		{"a beam without a capacity", spoilt, []int{4}, 1, "1000", "5000", api.OK},
		{"a negative price", stock(), parts(), 5, "-1", "", api.ErrRange},
		{"a small negative price", stock(), parts(), 5, "-1/1000", "", api.ErrRange},
		{"a price that is not in lowest terms", stock(), parts(), 5, "2/2", "", api.ErrForm},
		{"a negative price that is not in lowest terms", stock(), parts(), 5, "-2/2", "", api.ErrForm},
		{"no price", stock(), parts(), 5, "", "", api.ErrForm},
		{"a long price", stock(), parts(), 5, digits(601), "", api.ErrLarge},
		{"a long negative price", stock(), parts(), 5, "-" + digits(601), "", api.ErrLarge},
		{"a price whose product is short", nil, []int{1}, 0, digits(600), digits(600), api.OK},
		{"a price whose product is long", nil, []int{2}, 0, digits(600), "", api.ErrLarge},
		{"a price whose product with a capacity is long", bars(1, 10), []int{1}, 0, digits(600), "", api.ErrLarge},
		{"a price whose products are long on the way", bars(1, 20), []int{19, 1}, 0, digits(600), "20", api.OK},
		{"a negative long price", nil, []int{2}, 0, "-" + digits(600), "", api.ErrRange},
	} {
		value, e := nest.Value(row.beams, row.pieces, row.kerf, row.price)
		want(t, "Value of "+row.what, value, e, row.value, row.e)
	}
}

func TestPriceAndBound(t *testing.T) {
	spoilt := bar(1, [2]int{0, 1})
	for _, row := range []struct {
		what   string
		beams  []api.Beam
		pieces []int
		kerf   int
		price  api.Rat
		bound  int
		e      api.Errno
	}{
		{"the examples", stock(), parts(), 5, "1", 110, api.OK},
		{"one piece", stock(), []int{40}, 5, "12/13", 42, api.OK},
		{"a piece as great as the capacity of one beam", stock(), []int{60}, 5, "12/13", 60, api.OK},
		{"a piece that is 1 longer", stock(), []int{61}, 5, "1", 61, api.OK},
		{"pieces that need all", stock(), []int{80, 75}, 5, "1", 160, api.OK},
		{"pieces that need 1 more than all", stock(), []int{80, 76}, 5, "", 0, api.ErrInfeasible},
		{"too little stock", stock(), []int{100, 100}, 5, "", 0, api.ErrInfeasible},
		{"nothing", stock(), nil, 5, "0", 0, api.OK},
		{"no stock for nothing", nil, nil, 5, "0", 0, api.OK},
		{"no stock", nil, []int{1}, 0, "", 0, api.ErrInfeasible},
		{"a beam without a capacity for nothing", []api.Beam{spoilt}, nil, 5, "0", 0, api.OK},
		{"a beam without a capacity", []api.Beam{spoilt}, []int{1}, 0, "", 0, api.ErrInfeasible},
		{"a beam without a capacity beside others", append([]api.Beam{spoilt}, stock()...), parts(), 5, "1", 110, api.OK},
		{"a beam without a kerf", bars(3, 10), []int{7, 7}, 0, "1", 14, api.OK},
		{"beams that are all the same", bars(3, 10), []int{7, 7}, 2, "5/6", 15, api.OK},
		{"three beams", []api.Beam{bar(12, [2]int{6, 12}), bar(9, [2]int{0, 3}), bar(8)}, []int{7, 6}, 0, "3/2", 16, api.OK},
		{"a need that ends with a beam", []api.Beam{bar(12, [2]int{6, 12}), bar(9, [2]int{0, 3}), bar(8)}, []int{8, 6}, 0, "3/2", 17, api.OK},
		{"a need that goes on to the last beam", []api.Beam{bar(12, [2]int{6, 12}), bar(9, [2]int{0, 3}), bar(8)}, []int{8, 7}, 0, "2", 19, api.OK},
		{"large numbers", bars(32, most), slices.Repeat([]int{most / 2}, 64), 0, "1", 64 * (most / 2), api.OK},
		{"a large kerf", bars(32, most), slices.Repeat([]int{1}, 63), most, "1/2", 31500000000, api.OK},
	} {
		price, e := nest.Price(row.beams, row.pieces, row.kerf)
		want(t, "Price of "+row.what, price, e, row.price, row.e)
		bound, e := nest.Bound(row.beams, row.pieces, row.kerf)
		want(t, "Bound of "+row.what, bound, e, row.bound, row.e)
	}
}

// TestPriceOfLargeRatios has ratios that differ by less than floats tell.
func TestPriceOfLargeRatios(t *testing.T) {
	beams := []api.Beam{bar(most, [2]int{0, 1}), bar(most-1, [2]int{0, 1}), bar(most-2, [2]int{0, 1})}
	price, e := nest.Price(beams, []int{1}, 0)
	want(t, "Price of large ratios", price, e, "999999999/999999998", api.OK)
	slices.Reverse(beams)
	price, e = nest.Price(beams, []int{1}, 0)
	want(t, "Price of large ratios", price, e, "999999999/999999998", api.OK)
	price, e = nest.Price(beams, []int{most - 1, most - 2, 1}, 0)
	want(t, "Price of large ratios", price, e, "999999997/999999996", api.OK)
}

func number(i int) *big.Rat { return new(big.Rat).SetInt64(int64(i)) }

func text(r *big.Rat) api.Rat { return api.Rat(r.RatString()) }

// valueOf returns the value of a price by the definition.
func valueOf(t *testing.T, beams []api.Beam, pieces []int, kerf int, price *big.Rat) *big.Rat {
	need, e := nest.Need(pieces, kerf)
	wantError(t, "Need", e, api.OK)
	value := new(big.Rat).Mul(price, number(need))
	for _, b := range beams {
		capacity, e := nest.Capacity(b, kerf)
		wantError(t, "Capacity", e, api.OK)
		more := new(big.Rat).Mul(price, number(capacity))
		if more.Sub(more, number(b.Length)).Sign() > 0 {
			value.Sub(value, more)
		}
	}
	return value
}

// TestPricesOfAnyPieces compares the value of the price with those of prices nearby: it has no second summit.
func TestPricesOfAnyPieces(t *testing.T) {
	s := newSource(7)
	none, several := 0, 0
	step := big.NewRat(1, 1000000)
	for range 1000 {
		beams, pieces, kerf := s.beams(s.Intn(7), 30), s.pieces(s.Intn(9), 12), s.Intn(6)
		some := big.NewRat(int64(s.Intn(30)), int64(s.from(1, 12)))
		value, e := nest.Value(beams, pieces, kerf, text(some))
		want(t, "Value", value, e, text(valueOf(t, beams, pieces, kerf, some)), api.OK)
		price, e := nest.Price(beams, pieces, kerf)
		bound, errBound := nest.Bound(beams, pieces, kerf)
		need, _ := nest.Need(pieces, kerf)
		for _, b := range beams {
			capacity, _ := nest.Capacity(b, kerf)
			need -= capacity
		}
		if need > 0 {
			want(t, "Price", price, e, "", api.ErrInfeasible)
			want(t, "Bound", bound, errBound, 0, api.ErrInfeasible)
			none++
			continue
		}
		best, ok := new(big.Rat).SetString(string(price))
		if e != api.OK || !ok {
			t.Fatalf("Price: got %s, error %d", price, e)
		}
		greatest := valueOf(t, beams, pieces, kerf, best)
		if valueOf(t, beams, pieces, kerf, new(big.Rat).Add(best, step)).Cmp(greatest) > 0 {
			t.Errorf("Price of %v, %v, %d: got %s; a higher one has a greater value", beams, pieces, kerf, price)
		}
		if best.Sign() > 0 && valueOf(t, beams, pieces, kerf, new(big.Rat).Sub(best, step)).Cmp(greatest) >= 0 {
			t.Errorf("Price of %v, %v, %d: got %s; a lower one has no lower value", beams, pieces, kerf, price)
		}
		if price != "0" && price != "1" {
			several++
		}
		up := new(big.Rat).Sub(number(bound), greatest)
		if errBound != api.OK || up.Sign() < 0 || up.Cmp(number(1)) >= 0 {
			t.Errorf("Bound of %v, %v, %d: got %d, error %d, for the value %s", beams, pieces, kerf, bound, errBound, greatest)
		}
	}
	if none < 100 || several < 100 {
		t.Errorf("%d times none, and %d prices", none, several)
	}
}

func TestExcess(t *testing.T) {
	for _, row := range []struct {
		pieces []int
		l      []api.Placing
		excess int
		e      api.Errno
	}{
		{parts(), on(0, 0, 0, 50, 1, 0), 50, api.OK},
		{[]int{40}, on(1, 0), 18, api.OK},
		{[]int{40}, on(0, 0), 58, api.OK},
		{[]int{60}, on(1, 0), 0, api.OK},
		{nil, nil, 0, api.OK},
		{parts(), on(0, 0, 0, 50, 1, 31), 0, api.ErrRange},
		{parts(), on(0, 0, 0, 50), 0, api.ErrShape},
		{[]int{100, 100}, on(0, 0, 1, 0), 0, api.ErrFace},
		{[]int{100, 100}, nil, 0, api.ErrShape},
	} {
		excess, e := nest.Excess(stock(), row.pieces, 5, row.l)
		want(t, "Excess", excess, e, row.excess, row.e)
	}
}
