package impl

import "math/bits"

const wordBits = 64
const wideBits = 2 * wordBits

// Wide is the number Hi * 2^64 + Lo.
type Wide struct {
	Hi uint64
	Lo uint64
}

// words is the number of a Wide, the lowest word first, so that a carry runs with the index.
type words [wideBits / wordBits]uint64

func wordsOf(a Wide) words {
	return words{a.Lo, a.Hi}
}

func (w words) wide() Wide {
	return Wide{Hi: w[1], Lo: w[0]}
}

func (w words) plus(v words) (words, bool) {
	var sum words
	var carry uint64
	for i := range w {
		sum[i], carry = bits.Add64(w[i], v[i], carry)
	}
	return sum, carry != 0
}

func (w words) minus(v words) (words, bool) {
	var rest words
	var borrow uint64
	for i := range w {
		rest[i], borrow = bits.Sub64(w[i], v[i], borrow)
	}
	return rest, borrow != 0
}

func (w words) below(v words) bool {
	_, borrowed := w.minus(v)
	return borrowed
}

func (w *words) addProduct(a uint64, b uint64) {
	hi, lo := bits.Mul64(a, b)
	*w, _ = w.plus(words{lo, hi})
}

// boundDistance keeps shifts from going below 0, where Go would panic; at wideBits nothing is left to shift.
func boundDistance(n int) int {
	return min(max(n, 0), wideBits)
}

// Where part is 0, left and right shift the neighbour by a whole word, which leaves nothing of it: just what is wanted.

func (w words) left(n int) words {
	n = boundDistance(n)
	skip, part := n/wordBits, n%wordBits
	var out words
	for i := skip; i < len(w); i++ {
		out[i] = w[i-skip] << part
		if i > skip {
			out[i] |= w[i-skip-1] >> (wordBits - part)
		}
	}
	return out
}

func (w words) right(n int) words {
	n = boundDistance(n)
	skip, part := n/wordBits, n%wordBits
	var out words
	for i := skip; i < len(w); i++ {
		out[i-skip] = w[i] >> part
		if i+1 < len(w) {
			out[i-skip] |= w[i+1] << (wordBits - part)
		}
	}
	return out
}

func (w words) zeros() int {
	n := 0
	for i := len(w) - 1; i >= 0; i-- {
		if w[i] != 0 {
			return n + bits.LeadingZeros64(w[i])
		}
		n += wordBits
	}
	return n
}

// through is not asked for d 0: bits.Div64 panics there. It never overflows, as each rest is below d.
func (w words) through(d uint64) (words, uint64) {
	var quotient words
	var rest uint64
	for i := len(w) - 1; i >= 0; i-- {
		quotient[i], rest = bits.Div64(rest, w[i], d)
	}
	return quotient, rest
}

// root tries the bits of the root from the highest on. Squares of one word fit, so none of them wraps round.
func (w words) root() (uint64, bool) {
	var root uint64
	var square words
	for bit := uint64(1) << (wordBits - 1); bit != 0; bit >>= 1 {
		guess := root | bit
		clear(square[:])
		square.addProduct(guess, guess)
		if !w.below(square) {
			root = guess
		}
	}
	clear(square[:])
	square.addProduct(root, root)
	return root, square != w
}

// MulWide is the product of a and b.
func MulWide(a uint64, b uint64) Wide {
	var product words
	product.addProduct(a, b)
	return product.wide()
}

// AddWide is the sum modulo 2^128, and whether it is 2^128 or more.
func AddWide(a Wide, b Wide) (Wide, bool) {
	sum, over := wordsOf(a).plus(wordsOf(b))
	return sum.wide(), over
}

// SubWide is the difference modulo 2^128, and whether it is below 0.
func SubWide(a Wide, b Wide) (Wide, bool) {
	rest, under := wordsOf(a).minus(wordsOf(b))
	return rest.wide(), under
}

// ShiftLeft is a * 2^n modulo 2^128; a for n below 0.
func ShiftLeft(a Wide, n int) Wide {
	return wordsOf(a).left(n).wide()
}

// ShiftRight is a / 2^n rounded down, and whether something was lost; a for n below 0.
func ShiftRight(a Wide, n int) (Wide, bool) {
	whole := wordsOf(a)
	kept := whole.right(n)
	return kept.wide(), kept.left(n) != whole
}

// Zeros is the number of bits above the highest 1; 128 for 0.
func Zeros(a Wide) int {
	return wordsOf(a).zeros()
}

// DivWide is the quotient rounded down, and the remainder; both zero if d is 0.
func DivWide(a Wide, d uint64) (Wide, uint64) {
	if d == 0 {
		return Wide{}, 0
	}
	quotient, rest := wordsOf(a).through(d)
	return quotient.wide(), rest
}

// SqrtWide is the greatest r with r * r at most a, and whether r * r is not a.
func SqrtWide(a Wide) (uint64, bool) {
	return wordsOf(a).root()
}
