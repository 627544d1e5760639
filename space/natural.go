package space

import (
	"cmp"
	"math"
	"math/bits"
	"strconv"
	"strings"
)

// chunkDigits is how many decimal digits fit into a word; chunk is 1 behind as many zeros.
const (
	chunkDigits = 19
	chunk       = 10000000000000000000
)

// natural is a natural number of any size: its words, the lowest one first.
// The highest word is not 0, so that a number has one form; 0 has no words.
// Naturals may share their words, so these are never changed.
type natural []uint64

// trimmed returns the natural of words that may have zeros at the high end.
func trimmed(words []uint64) natural {
	for len(words) > 0 && words[len(words)-1] == 0 {
		words = words[:len(words)-1]
	}
	return words
}

// naturalOf returns the natural of one word.
func naturalOf(word uint64) natural { return trimmed([]uint64{word}) }

// naturalText returns the natural of a text of decimal digits.
func naturalText(digits string) natural {
	var n natural
	for len(digits) > 0 {
		// The first part takes what is more than whole chunks.
		end := (len(digits)-1)%chunkDigits + 1
		word, _ := strconv.ParseUint(digits[:end], 10, 64)
		n = n.times(naturalOf(chunk)).plus(naturalOf(word))
		digits = digits[end:]
	}
	return n
}

// text returns the decimal digits of a.
func (a natural) text() string {
	var words []uint64
	for len(a) > 1 {
		rest, word := a.divideWord(chunk)
		a, words = rest, append(words, word)
	}
	var text strings.Builder
	text.WriteString(strconv.FormatUint(a.low(), 10))
	for i := len(words) - 1; i >= 0; i-- {
		digits := strconv.FormatUint(words[i], 10)
		text.WriteString(strings.Repeat("0", chunkDigits-len(digits)))
		text.WriteString(digits)
	}
	return text.String()
}

// low returns the lowest word of a.
func (a natural) low() uint64 {
	if a.isZero() {
		return 0
	}
	return a[0]
}

func (a natural) isZero() bool { return len(a) == 0 }

func (a natural) isOne() bool { return len(a) == 1 && a[0] == 1 }

// compare returns -1, 0 or 1 if a is less than, equal to, or greater than b.
func (a natural) compare(b natural) int {
	if len(a) != len(b) {
		return cmp.Compare(len(a), len(b))
	}
	for i := len(a) - 1; i >= 0; i-- {
		if a[i] != b[i] {
			return cmp.Compare(a[i], b[i])
		}
	}
	return 0
}

func (a natural) plus(b natural) natural {
	if len(a) < len(b) {
		a, b = b, a
	}
	sum := make([]uint64, len(a)+1)
	var carry uint64
	for i, word := range b {
		sum[i], carry = bits.Add64(a[i], word, carry)
	}
	for i := len(b); i < len(a); i++ {
		sum[i], carry = bits.Add64(a[i], 0, carry)
	}
	sum[len(a)] = carry
	return trimmed(sum)
}

// minus returns a less b, which is at most a.
func (a natural) minus(b natural) natural {
	rest := make([]uint64, len(a))
	var borrow uint64
	for i, word := range b {
		rest[i], borrow = bits.Sub64(a[i], word, borrow)
	}
	for i := len(b); i < len(a); i++ {
		rest[i], borrow = bits.Sub64(a[i], 0, borrow)
	}
	return trimmed(rest)
}

func (a natural) times(b natural) natural {
	product := make([]uint64, len(a)+len(b))
	for i, word := range b {
		product[i+len(a)] = addMultiple(product[i:i+len(a)], a, word)
	}
	return trimmed(product)
}

// addMultiple adds word times a to as many words of sum, and returns the word that is carried beyond them.
func addMultiple(sum []uint64, a natural, word uint64) uint64 {
	var carry, c uint64
	for i := range a {
		high, low := bits.Mul64(a[i], word)
		low, c = bits.Add64(low, carry, 0)
		high += c
		sum[i], c = bits.Add64(sum[i], low, 0)
		carry = high + c
	}
	return carry
}

// takeMultiple takes word times a from as many words of rest, and returns the word that is borrowed beyond them.
func takeMultiple(rest []uint64, a natural, word uint64) uint64 {
	var borrow, c uint64
	for i := range a {
		high, low := bits.Mul64(a[i], word)
		low, c = bits.Add64(low, borrow, 0)
		high += c
		rest[i], c = bits.Sub64(rest[i], low, 0)
		borrow = high + c
	}
	return borrow
}

// divide returns the quotient and the rest of a and b, which is not 0.
func (a natural) divide(b natural) (natural, natural) {
	switch {
	case a.compare(b) < 0:
		return nil, a
	case len(b) == 1:
		quotient, rest := a.divideWord(b[0])
		return quotient, naturalOf(rest)
	}
	return a.divideLong(b)
}

// divideWord returns the quotient and the rest of a and a word, which is not 0.
func (a natural) divideWord(word uint64) (natural, uint64) {
	quotient := make([]uint64, len(a))
	var rest uint64
	for i := len(a) - 1; i >= 0; i-- {
		quotient[i], rest = bits.Div64(rest, a[i], word)
	}
	return trimmed(quotient), rest
}

// divideLong divides a by b as on paper, where b has at least two words and a as many or more.
// Both are shifted until the highest bit of b is set: then the first words tell each word of the
// quotient, or one more than it (Knuth, The Art of Computer Programming, 4.3.1, algorithm D).
func (a natural) divideLong(b natural) (natural, natural) {
	shift := uint(bits.LeadingZeros64(b[len(b)-1]))
	rest, divisor := a.shiftedUp(shift), trimmed(b.shiftedUp(shift))
	quotient := make([]uint64, len(a)-len(b)+1)
	for i := len(quotient) - 1; i >= 0; i-- {
		quotient[i] = takeOut(rest[i:i+len(b)+1], divisor)
	}
	return trimmed(quotient), shiftedDown(rest, shift)
}

// takeOut takes from a part of the rest, which has a word more than the divisor, as many divisors as it can, and returns their number.
func takeOut(part []uint64, divisor natural) uint64 {
	n := len(divisor)
	word := guess(part[n], part[n-1], part[n-2], divisor[n-1], divisor[n-2])
	if takeMultiple(part[:n], divisor, word) > part[n] {
		addMultiple(part[:n], divisor, 1)
		word--
	}
	part[n] = 0
	return word
}

// guess returns the word of a quotient, or one more than it, by the three highest words of the rest and the two highest ones of the divisor.
func guess(high, middle, low, first, second uint64) uint64 {
	if high >= first {
		return math.MaxUint64
	}
	word, rest := bits.Div64(high, middle, first)
	for {
		above, below := bits.Mul64(word, second)
		if above < rest || above == rest && below <= low {
			return word
		}
		word--
		rest += first
		if rest < first { // it has become greater than a word, and so than above
			return word
		}
	}
}

// shiftedUp returns the words of a shifted by less than 64 bits, with one word more.
func (a natural) shiftedUp(shift uint) []uint64 {
	words := make([]uint64, len(a)+1)
	for i, word := range a {
		words[i] |= word << shift
		words[i+1] = word >> (64 - shift)
	}
	return words
}

// shiftedDown shifts words by less than 64 bits.
func shiftedDown(words []uint64, shift uint) natural {
	shifted := make([]uint64, len(words))
	for i, word := range words {
		shifted[i] = word >> shift
		if i > 0 {
			shifted[i-1] |= word << (64 - shift)
		}
	}
	return trimmed(shifted)
}

// root returns the square root of a, and whether it is a natural number.
// Newton's steps from a number above the root fall until they reach the greatest natural number that is not above it.
func (a natural) root() (natural, bool) {
	if a.isZero() {
		return nil, true
	}
	half := (len(a)*64 - bits.LeadingZeros64(a[len(a)-1]) + 1) / 2
	root := make(natural, half/64+1)
	root[half/64] = 1 << (half % 64)
	for {
		quotient, _ := a.divide(root)
		next := shiftedDown(root.plus(quotient), 1)
		if next.compare(root) >= 0 {
			return root, root.times(root).compare(a) == 0
		}
		root = next
	}
}

// gcd returns the greatest common divisor of a and b, one of which is not 0.
func gcd(a, b natural) natural {
	if a.compare(b) < 0 {
		a, b = b, a
	}
	for len(b) > 1 {
		if s := simulate(a, b); s.steps > 0 {
			a, b = s.carryOut(a, b)
		} else {
			_, rest := a.divide(b)
			a, b = b, rest
		}
	}
	if b.isZero() {
		return a
	}
	_, rest := a.divideWord(b[0])
	return naturalOf(gcdWords(b[0], rest))
}

// euclid is what some steps of Euclid's algorithm make of a and b: after an even number of steps
// oldA a - oldB b and newB b - newA a, after an odd number the same with the other signs.
type euclid struct {
	oldA, oldB, newA, newB uint64
	steps                  int
}

// simulate returns the steps that the highest 64 bits of a and b tell, where b is at most a and has at least two words.
// With these few large numbers are computed instead of many (Lehmer's algorithm; the condition to go on is that of Collins).
func simulate(a, b natural) euclid {
	n, shift := len(a), uint(bits.LeadingZeros64(a[len(a)-1]))
	highA := a[n-1]<<shift | a[n-2]>>(64-shift)
	var highB uint64
	switch len(b) {
	case n:
		highB = b[n-1]<<shift | b[n-2]>>(64-shift)
	case n - 1:
		highB = b[n-2] >> (64 - shift)
	}
	s := euclid{oldA: 1, newB: 1}
	for highB > 0 {
		next := s.next(highA / highB)
		highA, highB = highB, highA%highB
		// Behind these bounds the bits that were left out could change the step.
		if highB < next.newB || highA-highB < next.oldB+next.newB {
			break
		}
		s = next
	}
	return s
}

// next returns the steps with one more, whose quotient is a word.
func (s euclid) next(word uint64) euclid {
	return euclid{s.newA, s.newB, s.oldA + word*s.newA, s.oldB + word*s.newB, s.steps + 1}
}

// carryOut returns what the steps make of a and b.
func (s euclid) carryOut(a, b natural) (natural, natural) {
	if s.steps%2 == 0 {
		return difference(s.oldA, a, s.oldB, b), difference(s.newB, b, s.newA, a)
	}
	return difference(s.oldB, b, s.oldA, a), difference(s.newA, a, s.newB, b)
}

// difference returns x times a less y times b, which is not below 0.
func difference(x uint64, a natural, y uint64, b natural) natural {
	words := make([]uint64, max(len(a), len(b))+1)
	words[len(a)] = addMultiple(words[:len(a)], a, x)
	borrow := takeMultiple(words[:len(b)], b, y)
	for i := len(b); i < len(words); i++ {
		words[i], borrow = bits.Sub64(words[i], borrow, 0)
	}
	return trimmed(words)
}

// gcdWords returns the greatest common divisor of a and b.
func gcdWords(a, b uint64) uint64 {
	for b != 0 {
		a, b = b, a%b
	}
	return a
}
