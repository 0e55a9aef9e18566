package tests

import (
	"math/big"

	"loop.example/s01330/impl"
)

// What the document says of formats, of rounding and of its functions, done in rational numbers and as near to its
// words as can be.

const (
	nan32 = uint64(0x7fc00000)
	nan64 = uint64(0x7ff8000000000000)
)

var allFormats = []int{impl.F32, impl.F64}

var allModes = []int{impl.REven, impl.RAway, impl.RZero, impl.RUp, impl.RDown}

var noFormats = []int{-1 << 63, -2, -1, 2, 3, 64, 1<<63 - 1}

var noModes = []int{-1 << 63, -2, -1, 5, 6, 64, 1<<63 - 1}

var allKinds = []int{impl.I32, impl.I64, impl.U32, impl.U64}

var noKinds = []int{-1 << 63, -2, -1, 4, 5, 64, 1<<63 - 1}

type layout struct {
	precision int
	emin      int
	emax      int
	width     int
}

func layoutOf(f int) layout {
	if f == impl.F32 {
		return layout{precision: 24, emin: -126, emax: 127, width: 8}
	}
	return layout{precision: 53, emin: -1022, emax: 1023, width: 11}
}

func nanOf(f int) uint64 {
	if f == impl.F32 {
		return nan32
	}
	return nan64
}

func infinityOf(f int, sign int) uint64 {
	return wordOf(f, sign, 1<<layoutOf(f).width-1, 0)
}

func wordOf(f int, sign int, exponent uint64, fraction uint64) uint64 {
	l := layoutOf(f)
	return uint64(sign)<<(l.precision-1+l.width) | exponent<<(l.precision-1) | fraction
}

func fieldsOf(f int, w uint64) (sign int, exponent uint64, fraction uint64) {
	l := layoutOf(f)
	sign = int(w >> (l.precision - 1 + l.width) & 1)
	exponent = w >> (l.precision - 1) & (1<<l.width - 1)
	fraction = w & (1<<(l.precision-1) - 1)
	return sign, exponent, fraction
}

func turned(f int, w uint64) uint64 {
	return w ^ wordOf(f, 1, 0, 0)
}

// scaled is x * 2^n.
func scaled(x *big.Int, n int) *big.Rat {
	if n >= 0 {
		return new(big.Rat).SetInt(new(big.Int).Lsh(x, uint(n)))
	}
	return new(big.Rat).SetFrac(x, power(uint(-n)))
}

func powerOf2(n int) *big.Rat {
	return scaled(big.NewInt(1), n)
}

// valueOf is the number that a finite word means.
func valueOf(f int, w uint64) *big.Rat {
	l := layoutOf(f)
	sign, e, fraction := fieldsOf(f, w)
	var x *big.Rat
	if e == 0 {
		x = scaled(bigWord(fraction), l.emin-l.precision+1)
	} else {
		x = scaled(bigWord(1<<(l.precision-1)+fraction), int(e)+l.emin-1-(l.precision-1))
	}
	if sign == 1 {
		x.Neg(x)
	}
	return x
}

// exponentOf is the greatest n with 2^n at most x, for x above 0.
func exponentOf(x *big.Rat) int {
	n := x.Num().BitLen() - x.Denom().BitLen()
	for powerOf2(n).Cmp(x) > 0 {
		n--
	}
	for powerOf2(n+1).Cmp(x) <= 0 {
		n++
	}
	return n
}

// taken is which of the two whole numbers next to x is taken, x at least 0 and standing for a negative one if negative.
func taken(mode int, negative bool, x *big.Rat) *big.Int {
	lesser := new(big.Int).Quo(x.Num(), x.Denom())
	if x.IsInt() {
		return lesser
	}
	greater := new(big.Int).Add(lesser, big.NewInt(1))
	toLesser := new(big.Rat).Sub(x, new(big.Rat).SetInt(lesser))
	toGreater := new(big.Rat).Sub(new(big.Rat).SetInt(greater), x)
	nearer := toLesser.Cmp(toGreater)
	switch {
	case mode == impl.REven && nearer == 0:
		if lesser.Bit(0) == 0 {
			return lesser
		}
		return greater
	case mode == impl.REven && nearer > 0, mode == impl.RAway && nearer >= 0:
		return greater
	case mode == impl.RUp && !negative, mode == impl.RDown && negative:
		return greater
	}
	return lesser
}

func overflowed(f int, mode int, negative bool) impl.Result {
	sign := 0
	if negative {
		sign = 1
	}
	w := infinityOf(f, sign)
	switch {
	case mode == impl.RZero, mode == impl.RUp && negative, mode == impl.RDown && !negative:
		w--
	}
	return impl.Result{Bits: w, Flags: impl.FlagOverflow + impl.FlagInexact}
}

// rounded is x, which is not 0, rounded to a format in a way of rounding.
func rounded(f int, mode int, x *big.Rat) impl.Result {
	l := layoutOf(f)
	negative := x.Sign() < 0
	size := new(big.Rat).Abs(x)
	highest := exponentOf(size)
	e := max(highest, l.emin)
	unit := e - l.precision + 1
	count := taken(mode, negative, new(big.Rat).Mul(size, powerOf2(-unit)))
	result := scaled(count, unit)
	if result.Cmp(powerOf2(l.emax+1)) >= 0 {
		return overflowed(f, mode, negative)
	}
	var flags int
	if result.Cmp(size) != 0 {
		flags = impl.FlagInexact
		free := highest - l.precision + 1
		unbounded := scaled(taken(mode, negative, new(big.Rat).Mul(size, powerOf2(-free))), free)
		if unbounded.Cmp(powerOf2(l.emin)) < 0 {
			flags += impl.FlagUnderflow
		}
	}
	return impl.Result{Bits: encoded(f, negative, result), Flags: flags}
}

// encoded is the word of a number, at least 0 and below 2^(emax + 1), that the format has.
func encoded(f int, negative bool, size *big.Rat) uint64 {
	l := layoutOf(f)
	sign := 0
	if negative {
		sign = 1
	}
	if size.Sign() == 0 {
		return wordOf(f, sign, 0, 0)
	}
	e := exponentOf(size)
	if e < l.emin {
		count := new(big.Rat).Mul(size, powerOf2(l.precision-1-l.emin))
		return wordOf(f, sign, 0, count.Num().Uint64())
	}
	count := new(big.Rat).Mul(size, powerOf2(l.precision-1-e))
	return wordOf(f, sign, uint64(e-l.emin+1), count.Num().Uint64()-1<<(l.precision-1))
}

// edgeNumbers are finite words at which something turns, of both signs: zeros, the ends of the exponents, the ends of
// the fractions within one.
func edgeNumbers(f int) []uint64 {
	l := layoutOf(f)
	highest := uint64(1)<<l.width - 2
	middle := highest / 2
	half := uint64(1) << (l.precision - 2)
	full := uint64(1)<<(l.precision-1) - 1
	var out []uint64
	for _, e := range []uint64{0, 1, 2, 3, middle - 1, middle, middle + 1, middle + uint64(l.precision), highest - 1, highest} {
		for _, fraction := range []uint64{0, 1, 2, 3, half - 1, half, half + 1, full - 1, full} {
			out = append(out, wordOf(f, 0, e, fraction), wordOf(f, 1, e, fraction))
		}
	}
	return out
}

// edgeNaNs are quiet and signaling ones with either sign.
func edgeNaNs(f int) []uint64 {
	l := layoutOf(f)
	quiet := uint64(1) << (l.precision - 2)
	var out []uint64
	for sign := range 2 {
		for _, fraction := range []uint64{1, 2, quiet - 1, quiet, quiet + 1, 2*quiet - 1} {
			out = append(out, infinityOf(f, sign)|fraction)
		}
	}
	return out
}

// number is a finite word with any exponent, and one of three times with a fraction of few bits.
func (m *mixed) number(f int) uint64 {
	l := layoutOf(f)
	exponent := m.next() % (1<<l.width - 1)
	fraction := m.next() & (1<<(l.precision-1) - 1)
	switch m.next() % 3 {
	case 0:
		fraction &= fraction << (m.next() % uint64(l.precision))
	case 1:
		exponent = uint64(l.emax) + m.next()%9 - 4
	}
	return wordOf(f, int(m.next()%2), exponent, fraction)
}

func signOf(f int, w uint64) int {
	sign, _, _ := fieldsOf(f, w)
	return sign
}

func isZero(f int, w uint64) bool {
	_, e, fraction := fieldsOf(f, w)
	return e == 0 && fraction == 0
}

func isInfinity(f int, w uint64) bool {
	return w == infinityOf(f, 0) || w == infinityOf(f, 1)
}

func isNaN(f int, w uint64) bool {
	_, e, fraction := fieldsOf(f, w)
	return e == 1<<layoutOf(f).width-1 && fraction != 0
}

func isSignaling(f int, w uint64) bool {
	_, _, fraction := fieldsOf(f, w)
	return isNaN(f, w) && fraction < 1<<(layoutOf(f).precision-2)
}

func invalid(f int) impl.Result {
	return impl.Result{Bits: nanOf(f), Flags: impl.FlagInvalid}
}

// ofNaNs is the answer if one of the words is a NaN.
func ofNaNs(f int, ws ...uint64) (result impl.Result, some bool) {
	result.Bits = nanOf(f)
	for _, w := range ws {
		some = some || isNaN(f, w)
		if isSignaling(f, w) {
			result.Flags = impl.FlagInvalid
		}
	}
	return result, some
}

// zeroOfSum is the answer for a sum that is 0; same tells whether it is one of zeros with the same sign.
func zeroOfSum(f int, mode int, same bool, sign int) impl.Result {
	if !same {
		sign = 0
		if mode == impl.RDown {
			sign = 1
		}
	}
	return impl.Result{Bits: wordOf(f, sign, 0, 0)}
}

func sumByWords(f int, mode int, a uint64, b uint64) impl.Result {
	if result, some := ofNaNs(f, a, b); some {
		return result
	}
	switch {
	case isInfinity(f, a) && isInfinity(f, b) && a != b:
		return invalid(f)
	case isInfinity(f, a):
		return impl.Result{Bits: a}
	case isInfinity(f, b):
		return impl.Result{Bits: b}
	}
	x := new(big.Rat).Add(valueOf(f, a), valueOf(f, b))
	if x.Sign() == 0 {
		return zeroOfSum(f, mode, isZero(f, a) && a == b, signOf(f, a))
	}
	return rounded(f, mode, x)
}

func productByWords(f int, mode int, a uint64, b uint64) impl.Result {
	if result, some := ofNaNs(f, a, b); some {
		return result
	}
	sign := signOf(f, a) ^ signOf(f, b)
	zero := isZero(f, a) || isZero(f, b)
	infinite := isInfinity(f, a) || isInfinity(f, b)
	switch {
	case zero && infinite:
		return invalid(f)
	case infinite:
		return impl.Result{Bits: infinityOf(f, sign)}
	case zero:
		return impl.Result{Bits: wordOf(f, sign, 0, 0)}
	}
	return rounded(f, mode, new(big.Rat).Mul(valueOf(f, a), valueOf(f, b)))
}

func fusedByWords(f int, mode int, a uint64, b uint64, c uint64) impl.Result {
	if isInfinity(f, a) && isZero(f, b) || isZero(f, a) && isInfinity(f, b) {
		return invalid(f)
	}
	if result, some := ofNaNs(f, a, b, c); some {
		return result
	}
	sign := signOf(f, a) ^ signOf(f, b)
	infinite := isInfinity(f, a) || isInfinity(f, b)
	switch {
	case infinite && isInfinity(f, c) && c != infinityOf(f, sign):
		return invalid(f)
	case infinite:
		return impl.Result{Bits: infinityOf(f, sign)}
	case isInfinity(f, c):
		return impl.Result{Bits: c}
	}
	x := new(big.Rat).Mul(valueOf(f, a), valueOf(f, b))
	x.Add(x, valueOf(f, c))
	if x.Sign() == 0 {
		return zeroOfSum(f, mode, sign == signOf(f, c), sign)
	}
	return rounded(f, mode, x)
}

// counted is the word of (-1)^sign * count * 2^exp, which the format must have.
func counted(f int, sign int, count uint64, exp int) uint64 {
	return encoded(f, sign == 1, scaled(bigWord(count), exp))
}

func quotientByWords(f int, mode int, a uint64, b uint64) impl.Result {
	if result, some := ofNaNs(f, a, b); some {
		return result
	}
	sign := signOf(f, a) ^ signOf(f, b)
	switch {
	case isZero(f, a) && isZero(f, b), isInfinity(f, a) && isInfinity(f, b):
		return invalid(f)
	case isInfinity(f, a):
		return impl.Result{Bits: infinityOf(f, sign)}
	case isZero(f, a), isInfinity(f, b):
		return impl.Result{Bits: wordOf(f, sign, 0, 0)}
	case isZero(f, b):
		return impl.Result{Bits: infinityOf(f, sign), Flags: impl.FlagDivide}
	}
	return rounded(f, mode, new(big.Rat).Quo(valueOf(f, a), valueOf(f, b)))
}

// rootOf is the root of x, or where there is no such rational number one so near to it that no number of a format and
// no half between two of them lies at or between both.
func rootOf(x *big.Rat) *big.Rat {
	n := 2*64 - exponentOf(x)/2
	y := new(big.Rat).Mul(x, powerOf2(2*n))
	whole := new(big.Int).Quo(y.Num(), y.Denom())
	root := new(big.Int).Sqrt(whole)
	z := new(big.Rat).SetInt(root)
	if new(big.Rat).Mul(z, z).Cmp(y) != 0 {
		z.Add(z, big.NewRat(1, 2))
	}
	return z.Mul(z, powerOf2(-n))
}

func rootByWords(f int, mode int, a uint64) impl.Result {
	if result, some := ofNaNs(f, a); some {
		return result
	}
	switch {
	case isZero(f, a):
		return impl.Result{Bits: a}
	case signOf(f, a) == 1:
		return invalid(f)
	case isInfinity(f, a):
		return impl.Result{Bits: a}
	}
	return rounded(f, mode, rootOf(valueOf(f, a)))
}

func remainderByWords(f int, a uint64, b uint64) impl.Result {
	if result, some := ofNaNs(f, a, b); some {
		return result
	}
	switch {
	case isInfinity(f, a), isZero(f, b):
		return invalid(f)
	case isInfinity(f, b), isZero(f, a):
		return impl.Result{Bits: a}
	}
	x, y := valueOf(f, a), valueOf(f, b)
	q := new(big.Rat).Quo(x, y)
	n := taken(impl.REven, q.Sign() < 0, new(big.Rat).Abs(q))
	if q.Sign() < 0 {
		n.Neg(n)
	}
	rest := x.Sub(x, y.Mul(y, new(big.Rat).SetInt(n)))
	if rest.Sign() == 0 {
		return impl.Result{Bits: wordOf(f, signOf(f, a), 0, 0)}
	}
	return impl.Result{Bits: encoded(f, rest.Sign() < 0, rest.Abs(rest))}
}

// endsOf are the least and the greatest integer of a kind.
func endsOf(kind int) (*big.Int, *big.Int) {
	one := big.NewInt(1)
	switch kind {
	case impl.I32:
		return new(big.Int).Neg(power(31)), new(big.Int).Sub(power(31), one)
	case impl.I64:
		return new(big.Int).Neg(power(63)), new(big.Int).Sub(power(63), one)
	case impl.U32:
		return new(big.Int), new(big.Int).Sub(power(32), one)
	}
	return new(big.Int), new(big.Int).Sub(power(64), one)
}

func isOfKind(kind int, x *big.Int) bool {
	least, greatest := endsOf(kind)
	return x.Cmp(least) >= 0 && x.Cmp(greatest) <= 0
}

// integerOf is the integer that a word stands for: its number or, if it is negative, that less 2^64.
func integerOf(kind int, w uint64) (x *big.Int, fits bool) {
	x = bigWord(w)
	if isOfKind(kind, x) {
		return x, true
	}
	x.Sub(x, power(64))
	return x, x.Sign() < 0 && isOfKind(kind, x)
}

func wordOfInteger(x *big.Int) uint64 {
	return wideOf(x).Lo
}

func fromIntByWords(f int, mode int, kind int, w uint64) impl.Result {
	x, fits := integerOf(kind, w)
	switch {
	case !fits:
		return invalid(f)
	case x.Sign() == 0:
		return impl.Result{Bits: wordOf(f, 0, 0, 0)}
	}
	return rounded(f, mode, new(big.Rat).SetInt(x))
}

// wholeByWords is a number rounded to a whole one, and whether that is another number.
func wholeByWords(f int, mode int, a uint64) (*big.Int, bool) {
	x := valueOf(f, a)
	n := taken(mode, x.Sign() < 0, new(big.Rat).Abs(x))
	if x.Sign() < 0 {
		n.Neg(n)
	}
	return n, x.Cmp(new(big.Rat).SetInt(n)) != 0
}

func toIntByWords(f int, mode int, kind int, a uint64) impl.Result {
	least, greatest := endsOf(kind)
	switch {
	case isNaN(f, a), a == infinityOf(f, 0):
		return impl.Result{Bits: wordOfInteger(greatest), Flags: impl.FlagInvalid}
	case a == infinityOf(f, 1):
		return impl.Result{Bits: wordOfInteger(least), Flags: impl.FlagInvalid}
	}
	n, other := wholeByWords(f, mode, a)
	switch {
	case n.Cmp(greatest) > 0:
		return impl.Result{Bits: wordOfInteger(greatest), Flags: impl.FlagInvalid}
	case n.Cmp(least) < 0:
		return impl.Result{Bits: wordOfInteger(least), Flags: impl.FlagInvalid}
	case other:
		return impl.Result{Bits: wordOfInteger(n), Flags: impl.FlagInexact}
	}
	return impl.Result{Bits: wordOfInteger(n)}
}

func convertByWords(from int, to int, mode int, a uint64) impl.Result {
	switch {
	case isSignaling(from, a):
		return invalid(to)
	case isNaN(from, a):
		return impl.Result{Bits: nanOf(to)}
	case isInfinity(from, a):
		return impl.Result{Bits: infinityOf(to, signOf(from, a))}
	case isZero(from, a):
		return impl.Result{Bits: wordOf(to, signOf(from, a), 0, 0)}
	}
	return rounded(to, mode, valueOf(from, a))
}

func roundIntByWords(f int, mode int, a uint64, exact bool) impl.Result {
	if result, some := ofNaNs(f, a); some {
		return result
	}
	if isInfinity(f, a) {
		return impl.Result{Bits: a}
	}
	n, other := wholeByWords(f, mode, a)
	result := impl.Result{Bits: encoded(f, signOf(f, a) == 1, new(big.Rat).SetInt(n.Abs(n)))}
	if exact && other {
		result.Flags = impl.FlagInexact
	}
	return result
}

// heightOf is the number of a word, and for infinities one beyond all others.
func heightOf(f int, w uint64) *big.Rat {
	if isInfinity(f, w) {
		x := powerOf2(layoutOf(f).emax + 1)
		if signOf(f, w) == 1 {
			x.Neg(x)
		}
		return x
	}
	return valueOf(f, w)
}

func compareByWords(f int, a uint64, b uint64, signaling bool) (int, int) {
	if result, some := ofNaNs(f, a, b); some {
		if signaling {
			return 2, impl.FlagInvalid
		}
		return 2, result.Flags
	}
	return heightOf(f, a).Cmp(heightOf(f, b)), 0
}

// extremesByWords are the lesser and the greater one.
func extremesByWords(f int, a uint64, b uint64) (impl.Result, impl.Result) {
	if result, some := ofNaNs(f, a, b); some {
		return result, result
	}
	order := heightOf(f, a).Cmp(heightOf(f, b))
	if order > 0 || order == 0 && signOf(f, a) < signOf(f, b) {
		a, b = b, a
	}
	return impl.Result{Bits: a}, impl.Result{Bits: b}
}
