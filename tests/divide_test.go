package tests

import (
	"math"
	"testing"

	"loop.example/s01330/impl"
)

// checkThrough asks for a / b.
func checkThrough(t *testing.T, f int, a uint64, b uint64, want inAllModes) {
	t.Helper()
	for mode, r := range want {
		if got := impl.Div(f, mode, a, b); got != r {
			t.Errorf("Div(%d, %d, %#x, %#x) is %#x, not %#x", f, mode, a, b, got, r)
		}
	}
}

// checkSigned asks for the quotient of two magnitudes with both pairs of signs that give it the sign.
func checkSigned(t *testing.T, f int, sign int, a uint64, b uint64, want inAllModes) {
	t.Helper()
	for s := range 2 {
		checkThrough(t, f, a|wordOf(f, s, 0, 0), b|wordOf(f, s^sign, 0, 0), want)
	}
}

func checkSquareRoot(t *testing.T, f int, a uint64, want inAllModes) {
	t.Helper()
	for mode, r := range want {
		if got := impl.Sqrt(f, mode, a); got != r {
			t.Errorf("Sqrt(%d, %d, %#x) is %#x, not %#x", f, mode, a, got, r)
		}
	}
}

func checkRem(t *testing.T, f int, a uint64, b uint64, want impl.Result) {
	t.Helper()
	if got := impl.Rem(f, a, b); got != want {
		t.Errorf("Rem(%d, %#x, %#x) is %#x, not %#x", f, a, b, got, want)
	}
}

// checkRest asks for the remainder with all signs: that of b does not matter, that of a turns the result.
func checkRest(t *testing.T, f int, a uint64, b uint64, want uint64) {
	t.Helper()
	checkRem(t, f, a, b, impl.Result{Bits: want})
	checkRem(t, f, a, turned(f, b), impl.Result{Bits: want})
	checkRem(t, f, turned(f, a), b, impl.Result{Bits: turned(f, want)})
	checkRem(t, f, turned(f, a), turned(f, b), impl.Result{Bits: turned(f, want)})
}

func TestDivideOfNoFormatOrWay(t *testing.T) {
	words := []uint64{0, 1, 0x3f800000, 0x7f800000, 0x7f800001, 0x7fc00000, 1 << 32, nan64, all}
	for _, f := range noFormats {
		for _, w := range words {
			for _, mode := range append([]int{impl.REven, impl.RDown}, noModes...) {
				if r := impl.Div(f, mode, w, w); r != invalid(impl.F64) {
					t.Errorf("Div(%d, %d, %#x, %#x) is %#x", f, mode, w, w, r)
				}
				if r := impl.Sqrt(f, mode, w); r != invalid(impl.F64) {
					t.Errorf("Sqrt(%d, %d, %#x) is %#x", f, mode, w, r)
				}
			}
			checkRem(t, f, w, w, invalid(impl.F64))
			checkRem(t, f, w, 1, invalid(impl.F64))
		}
	}
	for _, f := range allFormats {
		for _, mode := range noModes {
			for _, w := range words {
				if r := impl.Div(f, mode, w, w); r != invalid(f) {
					t.Errorf("Div(%d, %d, %#x, %#x) is %#x", f, mode, w, w, r)
				}
				if r := impl.Sqrt(f, mode, w); r != invalid(f) {
					t.Errorf("Sqrt(%d, %d, %#x) is %#x", f, mode, w, r)
				}
			}
		}
	}
}

func TestDivideOfWordsThatDoNotFit(t *testing.T) {
	f := impl.F32
	refused := always(nan32, impl.FlagInvalid)
	fitting := []uint64{0, 0x80000000, 1, 0x3f800000, 0x7f800000, 0xff800000, nan32, 0x7f800001}
	for _, w := range []uint64{1 << 32, 1<<32 + 1, 1<<32 + 0x3f800000, 1<<32 + nan32, 1 << 40, nan64, top, all} {
		checkSquareRoot(t, f, w, refused)
		for _, v := range append(fitting, w) {
			checkThrough(t, f, w, v, refused)
			checkThrough(t, f, v, w, refused)
			checkRem(t, f, w, v, invalid(f))
			checkRem(t, f, v, w, invalid(f))
		}
	}
	// The greatest word that fits, and the same bits where all words do.
	checkThrough(t, f, 1<<32-1, 0, always(nan32, 0))
	checkSquareRoot(t, f, 1<<32-1, always(nan32, 0))
	checkRem(t, f, 0, 1<<32-1, impl.Result{Bits: nan32})
	one := counted(impl.F64, 0, 1, 0)
	checkThrough(t, impl.F64, 1<<32, 1<<32, always(one, exact))
	checkThrough(t, impl.F64, 1<<40, one, always(1<<40, exact))
	checkRem(t, impl.F64, 1<<32+1, 1<<32, impl.Result{Bits: 1})
}

func TestQuotientsRootsAndRemaindersOfNaNs(t *testing.T) {
	for _, f := range allFormats {
		one := counted(f, 0, 1, 0)
		others := []uint64{0, turned(f, 0), 1, one, turned(f, one), infinityOf(f, 0) - 1, infinityOf(f, 0), infinityOf(f, 1)}
		for _, w := range edgeNaNs(f) {
			flags := 0
			if isSignaling(f, w) {
				flags = impl.FlagInvalid
			}
			checkSquareRoot(t, f, w, always(nanOf(f), flags))
			for _, v := range others {
				checkThrough(t, f, w, v, always(nanOf(f), flags))
				checkThrough(t, f, v, w, always(nanOf(f), flags))
				checkRem(t, f, w, v, impl.Result{Bits: nanOf(f), Flags: flags})
				checkRem(t, f, v, w, impl.Result{Bits: nanOf(f), Flags: flags})
			}
			for _, v := range edgeNaNs(f) {
				both := flags
				if isSignaling(f, v) {
					both = impl.FlagInvalid
				}
				checkThrough(t, f, w, v, always(nanOf(f), both))
				checkRem(t, f, w, v, impl.Result{Bits: nanOf(f), Flags: both})
			}
		}
	}
}

func TestQuotientsOfZerosAndInfinities(t *testing.T) {
	inBoth(func(f int, sign int) {
		zero, infinity := wordOf(f, sign, 0, 0), infinityOf(f, sign)
		checkSigned(t, f, sign, 0, 0, always(nanOf(f), impl.FlagInvalid))
		checkSigned(t, f, sign, infinityOf(f, 0), infinityOf(f, 0), always(nanOf(f), impl.FlagInvalid))
		checkSigned(t, f, sign, infinityOf(f, 0), 0, always(infinity, exact))
		checkSigned(t, f, sign, 0, infinityOf(f, 0), always(zero, exact))
		for _, w := range edgeNumbers(f) {
			if isZero(f, w) || signOf(f, w) == 1 {
				continue
			}
			checkSigned(t, f, sign, infinityOf(f, 0), w, always(infinity, exact))
			checkSigned(t, f, sign, w, 0, always(infinity, impl.FlagDivide))
			checkSigned(t, f, sign, 0, w, always(zero, exact))
			checkSigned(t, f, sign, w, infinityOf(f, 0), always(zero, exact))
		}
	})
}

func TestQuotientsThatAreExact(t *testing.T) {
	inBoth(func(f int, sign int) {
		l := layoutOf(f)
		one := counted(f, 0, 1, 0)
		minus := wordOf(f, sign, 0, 0)
		for _, w := range edgeNumbers(f) {
			if isZero(f, w) || signOf(f, w) == 1 {
				continue
			}
			checkSigned(t, f, sign, w, w, always(minus|one, exact))
			checkSigned(t, f, sign, w, one, always(minus|w, exact))
		}
		for _, b := range []uint64{1, 3, 5, 7, 97, 1<<11 - 1, 1<<(l.precision/2) - 1} {
			for _, q := range []uint64{1, 2, 3, 11, 1<<(l.precision/2) - 1, 1 << (l.precision / 2)} {
				for _, n := range []int{0, 1, -1, 40, -40} {
					want := always(counted(f, sign, q, n), exact)
					checkSigned(t, f, sign, counted(f, 0, b*q, n), counted(f, 0, b, 0), want)
					checkSigned(t, f, sign, counted(f, 0, b*q, 3), counted(f, 0, b, 3-n), want)
				}
			}
		}
	})
}

// checkSmallAt divides a * 2^m by b * 2^n, small whole numbers whose quotients integers can tell to the last place.
func checkSmallAt(t *testing.T, f int, sign int, a uint64, b uint64, m int, n int) {
	t.Helper()
	p := layoutOf(f).precision
	shift := 0
	for a<<shift/b < 1<<(p-1) {
		shift++
	}
	count, rest := a<<shift/b, a<<shift%b
	lesser := counted(f, sign, count, m-n-shift)
	want := always(lesser, exact)
	switch {
	case rest != 0 && 2*rest < b:
		want = between(lesser, inexact, belowHalf[sign])
	case rest != 0:
		want = between(lesser, inexact, aboveHalf[sign])
	}
	checkSigned(t, f, sign, counted(f, 0, a, m), counted(f, 0, b, n), want)
}

func TestQuotientsOfSmallNumbers(t *testing.T) {
	inBoth(func(f int, sign int) {
		for a := uint64(1); a <= 40; a++ {
			for b := uint64(1); b <= 60; b++ {
				for _, exp := range []int{0, 1, -60, 80} {
					checkSmallAt(t, f, sign, a, b, exp/2, exp/2-exp)
				}
			}
		}
		checkSmallAt(t, f, sign, 1, 61, 0, 0)
		checkSmallAt(t, f, sign, 63, 61, 0, 0)
	})
	// The answers themselves, once.
	checkThrough(t, impl.F32, 0x3f800000, 0x40400000, between(0x3eaaaaaa, 16, [5]uint64{1, 1, 0, 1, 0}))
	checkThrough(t, impl.F64, 0x3ff0000000000000, 0x4008000000000000, between(0x3fd5555555555555, 16, [5]uint64{0, 0, 0, 1, 0}))
	checkThrough(t, impl.F32, 0xbf800000, 0x40400000, between(0xbeaaaaaa, 16, [5]uint64{1, 1, 0, 0, 1}))
}

// A quotient of numbers with all their digits never lies at a half, but may lie very near to one or to a neighbour.
func TestQuotientsOfNeighboursOf1(t *testing.T) {
	inBoth(func(f int, sign int) {
		one := counted(f, 0, 1, 0)
		w := counted(f, sign, 1, 0)
		// With u the step above 1: 1 / (1 - u/2) is 1 + u/2 + u^2/4 + ..
		checkSigned(t, f, sign, one, one-1, between(w, inexact, aboveHalf[sign]))
		checkSigned(t, f, sign, one+1, one-1, between(w+1, inexact, aboveHalf[sign]))
		checkSigned(t, f, sign, one, one-2, between(w+1, inexact, belowHalf[sign]))
		// 1 / (1 + u) is 1 - u + u^2 - .., and below 1 the step is u/2.
		checkSigned(t, f, sign, one, one+1, between(w-2, inexact, belowHalf[sign]))
		checkSigned(t, f, sign, one-1, one+1, between(w-3, inexact, belowHalf[sign]))
		// (1 - u/2) / (1 - u) is 1 + u/2 + u^2/2 + ..
		checkSigned(t, f, sign, one-1, one-2, between(w, inexact, aboveHalf[sign]))
		// (2 - 2u) / (2 - u) is 1 - u/2 - u^2/4 - ..: the greatest quotient below the one that is next to 1.
		two := counted(f, 0, 2, 0)
		checkSigned(t, f, sign, two-2, two-1, between(w-2, inexact, aboveHalf[sign]))
		checkSigned(t, f, sign, two-1, two-2, between(w, inexact, aboveHalf[sign]))
	})
}

// No quotient lies between the greatest number and 2^(emax + 1).
func TestQuotientsThatOverflow(t *testing.T) {
	inBoth(func(f int, sign int) {
		l := layoutOf(f)
		greatest := infinityOf(f, 0) - 1
		minus := wordOf(f, sign, 0, 0)
		one := counted(f, 0, 1, 0)
		over := overflows(f, sign)
		checkSigned(t, f, sign, greatest, one, always(minus|greatest, exact))
		checkSigned(t, f, sign, greatest, one-1, over)
		checkSigned(t, f, sign, greatest-1, one-1, between(minus|(greatest-1), inexact, aboveHalf[sign]))
		checkSigned(t, f, sign, greatest, one+1, between(minus|(greatest-2), inexact, belowHalf[sign]))
		checkSigned(t, f, sign, counted(f, 0, 1, l.emax), counted(f, 0, 1, -1), over)
		checkSigned(t, f, sign, counted(f, 0, 1, l.emax), one, always(counted(f, sign, 1, l.emax), exact))
		checkSigned(t, f, sign, counted(f, 0, 1, 1), counted(f, 0, 1, 1-l.emax), always(counted(f, sign, 1, l.emax), exact))
		checkSigned(t, f, sign, counted(f, 0, 1, 2), counted(f, 0, 1, 1-l.emax), over)
		for _, b := range []uint64{1, 2, 3, 1<<(l.precision-1) - 1, 1 << (l.precision - 1), counted(f, 0, 1, -2)} {
			checkSigned(t, f, sign, greatest, b, over)
		}
		checkSigned(t, f, sign, one, 1, over)
		checkSigned(t, f, sign, greatest, greatest, always(minus|one, exact))
	})
	// The answers themselves, once.
	checkThrough(t, impl.F32, 0x7f7fffff, 1, between(0x7f7fffff, 20, [5]uint64{1, 1, 0, 1, 0}))
	checkThrough(t, impl.F32, 0x7f7fffff, 0x80000001, between(0xff7fffff, 20, [5]uint64{1, 1, 0, 0, 1}))
}

func TestQuotientsThatAreTiny(t *testing.T) {
	inBoth(func(f int, sign int) {
		l := layoutOf(f)
		zero := wordOf(f, sign, 0, 0)
		two := counted(f, 0, 2, 0)
		greatest := infinityOf(f, 0) - 1
		checkSigned(t, f, sign, 1, two, between(zero, tooLittle, halfFromEven[sign]))
		checkSigned(t, f, sign, 1, two-1, between(zero, tooLittle, aboveHalf[sign]))
		checkSigned(t, f, sign, 1, two+1, between(zero, tooLittle, belowHalf[sign]))
		checkSigned(t, f, sign, 3, two, between(zero+1, tooLittle, halfFromOdd[sign]))
		checkSigned(t, f, sign, 3, two-1, between(zero+1, tooLittle, aboveHalf[sign]))
		checkSigned(t, f, sign, 3, two+1, between(zero+1, tooLittle, belowHalf[sign]))
		checkSigned(t, f, sign, 5, two, between(zero+2, tooLittle, halfFromEven[sign]))
		checkSigned(t, f, sign, 1, counted(f, 0, 1, 0)+1, between(zero, tooLittle, aboveHalf[sign]))
		checkSigned(t, f, sign, 1, counted(f, 0, 1, 0)-1, between(zero+1, tooLittle, belowHalf[sign]))
		normal := uint64(1) << (l.precision - 1)
		for _, a := range []uint64{1, 2, 3, normal - 1, normal, normal + 1} {
			checkSigned(t, f, sign, a, greatest, between(zero, tooLittle, belowHalf[sign]))
			checkSigned(t, f, sign, a, counted(f, 0, 1, l.emax), between(zero, tooLittle, belowHalf[sign]))
		}
		checkSigned(t, f, sign, 1, counted(f, 0, 1, 2), between(zero, tooLittle, belowHalf[sign]))
		checkSigned(t, f, sign, counted(f, 0, 1, 0), greatest, between(counted(f, sign, 1, -l.emax-1), tooLittle, belowHalf[sign]))
		for _, a := range []uint64{2, 4, normal - 2, normal, normal + 2, 2*normal - 2} {
			checkSigned(t, f, sign, a, two, always(zero|a/2, exact))
		}
	})
}

// checkHalf divides (2 * whole + 1) * b halves of the least number by b, which lies at a half. Neighbours of the operands
// lie beside it.
func checkHalf(t *testing.T, f int, sign int, whole uint64, b uint64, scale int) {
	t.Helper()
	l := layoutOf(f)
	last := l.emin - l.precision + 1
	w := wordOf(f, sign, 0, 0) | whole
	half := halfFromEven[sign]
	if whole&1 == 1 {
		half = halfFromOdd[sign]
	}
	a := counted(f, 0, (2*whole+1)*b, last-1+scale)
	divisor := counted(f, 0, b, scale)
	checkSigned(t, f, sign, a, divisor, between(w, tooLittle, half))
	if whole >= 1<<(l.precision-4) {
		// One step of an operand would go too far.
		return
	}
	checkSigned(t, f, sign, a+1, divisor, between(w, tooLittle, aboveHalf[sign]))
	checkSigned(t, f, sign, a-1, divisor, between(w, tooLittle, belowHalf[sign]))
	checkSigned(t, f, sign, a, divisor+1, between(w, tooLittle, belowHalf[sign]))
	checkSigned(t, f, sign, a, divisor-1, between(w, tooLittle, aboveHalf[sign]))
}

func TestQuotientsAtTheHalf(t *testing.T) {
	inBoth(func(f int, sign int) {
		p := layoutOf(f).precision
		for _, scale := range []int{p, p + 1, 70, 100} {
			for _, b := range []uint64{1, 3, 5, 11, 31} {
				for _, whole := range []uint64{0, 1, 2, 3, 10, 101, 1<<(p-8) - 1} {
					checkHalf(t, f, sign, whole, b, scale)
				}
			}
			checkHalf(t, f, sign, 1<<(p-2)-1, 1, scale)
			checkHalf(t, f, sign, 1<<(p-2), 1, scale)
			checkHalf(t, f, sign, 1<<(p-1)-2, 1, scale)
		}
	})
}

// Just below 2^emin there are two steps of a format without a least exponent to one of the format, and no quotient
// lies in the upper one: what is rounded up to 2^emin is always tiny.
func TestQuotientsRoundedUpToTheLeastExponent(t *testing.T) {
	inBoth(func(f int, sign int) {
		l := layoutOf(f)
		normal := uint64(1) << (l.precision - 1)
		w := wordOf(f, sign, 0, normal-1)
		two := counted(f, 0, 2, 0)
		for _, n := range []int{0, 1, 2, 20, 60, l.emax - 1} {
			divisor := counted(f, 0, 2, n)
			above := counted(f, 0, 2, l.emin+n)
			// In units of 2^emin, and with u the step above 1: (2 - u) / 2 is 1 - u/2.
			checkSigned(t, f, sign, above-1, divisor, between(w, tooLittle, halfFromOdd[sign]))
			checkSigned(t, f, sign, above-2, divisor-1, between(w, tooLittle, belowHalf[sign]))
			checkSigned(t, f, sign, above-2, divisor, always(w, exact))
			checkSigned(t, f, sign, above-1, divisor+1, between(w-1, tooLittle, aboveHalf[sign]))
			checkSigned(t, f, sign, above, divisor, always(w+1, exact))
			checkSigned(t, f, sign, above, divisor-1, between(w+1, inexact, aboveHalf[sign]))
			checkSigned(t, f, sign, above+1, divisor-1, between(w+2, inexact, aboveHalf[sign]))
			checkSigned(t, f, sign, above, divisor+1, between(w, tooLittle, belowHalf[sign]))
		}
		checkSigned(t, f, sign, normal, two-1, between(wordOf(f, sign, 0, normal/2), tooLittle, belowHalf[sign]))
	})
}

func TestQuotientsOfOperandsWithExponentBits0(t *testing.T) {
	inBoth(func(f int, sign int) {
		l := layoutOf(f)
		last := l.emin - l.precision + 1
		normal := uint64(1) << (l.precision - 1)
		// Both in least numbers, with fewer digits than others.
		for a := uint64(1); a <= 20; a++ {
			for b := uint64(1); b <= 20; b++ {
				checkSmallAt(t, f, sign, a, b, last, last)
			}
		}
		for _, count := range []uint64{1, 2, 3, 5, normal/2 + 1, normal - 1} {
			for _, n := range []int{0, 1, l.precision, 60, l.emax - l.precision} {
				// A small one by a small power of 2, and a number by a small one.
				small := counted(f, 0, 1, l.emin-1)
				checkSigned(t, f, sign, count, small, always(counted(f, sign, count, last-l.emin+1), exact))
				checkSigned(t, f, sign, counted(f, 0, count, last+n), count, always(counted(f, sign, 1, n), exact))
				checkSigned(t, f, sign, counted(f, 0, count, n+last), 1, always(counted(f, sign, count, n), exact))
			}
		}
		// (2^(p-1) - 1) / 2^(p-1) and back, in least numbers.
		checkSigned(t, f, sign, normal-1, normal, always(counted(f, sign, normal-1, 1-l.precision), exact))
		one := counted(f, sign, 1, 0)
		checkSigned(t, f, sign, normal, normal-1, between(one+1, inexact, belowHalf[sign]))
		checkSigned(t, f, sign, normal+1, normal-1, between(one+2, inexact, belowHalf[sign]))
		checkSigned(t, f, sign, normal-1, normal+1, between(one-4, inexact, belowHalf[sign]))
	})
}

func TestRootsOfZerosInfinitiesAndNegatives(t *testing.T) {
	for _, f := range allFormats {
		checkSquareRoot(t, f, 0, always(0, exact))
		checkSquareRoot(t, f, turned(f, 0), always(turned(f, 0), exact))
		checkSquareRoot(t, f, infinityOf(f, 0), always(infinityOf(f, 0), exact))
		checkSquareRoot(t, f, infinityOf(f, 1), always(nanOf(f), impl.FlagInvalid))
		for _, w := range edgeNumbers(f) {
			if signOf(f, w) == 1 && !isZero(f, w) {
				checkSquareRoot(t, f, w, always(nanOf(f), impl.FlagInvalid))
			}
		}
	}
}

// checkSquare asks for the root of the square of count * 2^n, which is not a power of 2, and of its neighbours. The
// root steps by at most 0.71 of the last place where the square has an odd exponent, and by less than a half otherwise.
func checkSquare(t *testing.T, f int, count uint64, n int) {
	t.Helper()
	root := counted(f, 0, count, n)
	square := counted(f, 0, count*count, 2*n)
	checkSquareRoot(t, f, square, always(root, exact))
	odd := exponentOf(valueOf(f, square))%2 != 0
	above, below := belowHalf[0], aboveHalf[0]
	if odd {
		above, below = below, above
	}
	checkSquareRoot(t, f, square+1, between(root, inexact, above))
	checkSquareRoot(t, f, square-1, between(root-1, inexact, below))
}

func TestRootsOfSquares(t *testing.T) {
	for _, f := range allFormats {
		l := layoutOf(f)
		for _, count := range []uint64{3, 5, 7, 9, 11, 13, 15, 45, 1023, 1<<11 + 1, 1<<(l.precision/2) - 1} {
			for _, n := range []int{0, 1, -1, 2, 13, -25, l.emax/2 - l.precision, l.emin/2 + l.precision} {
				checkSquare(t, f, count, n)
			}
		}
		for n := l.emin / 2; n <= l.emax/2; n++ {
			root := counted(f, 0, 1, n)
			square := counted(f, 0, 1, 2*n)
			checkSquareRoot(t, f, square, always(root, exact))
			// With u the step above 1: the root of 1 + u is 1 + u/2 - u^2/8 .., that of 1 - u/2 is 1 - u/4 - u^2/32 ..
			checkSquareRoot(t, f, square+1, between(root, inexact, belowHalf[0]))
			checkSquareRoot(t, f, square+2, between(root, inexact, aboveHalf[0]))
			checkSquareRoot(t, f, square+3, between(root+1, inexact, belowHalf[0]))
			if 2*n > l.emin {
				checkSquareRoot(t, f, square-1, between(root-1, inexact, belowHalf[0]))
				checkSquareRoot(t, f, square-2, between(root-2, inexact, aboveHalf[0]))
			}
		}
	}
}

func TestRootsOf2WithAllExponents(t *testing.T) {
	lesser := [2]uint64{0x3fb504f3, 0x3ff6a09e667f3bcc}
	places := [2][5]uint64{belowHalf[0], aboveHalf[0]}
	for _, f := range allFormats {
		l := layoutOf(f)
		step := uint64(1) << (l.precision - 1)
		for n := (l.emin - l.precision + 1) / 2; 2*n+1 <= l.emax; n++ {
			w := lesser[f] + uint64(n)*step
			if 2*n+1 >= l.emin-l.precision+1 {
				checkSquareRoot(t, f, counted(f, 0, 1, 2*n+1), between(w, inexact, places[f]))
			}
		}
	}
}

func TestRootsOfTheLeastAndTheGreatest(t *testing.T) {
	for _, f := range allFormats {
		l := layoutOf(f)
		last := l.emin - l.precision + 1
		for _, count := range []uint64{1, 3, 5, 9, 15, 1<<(l.precision/2-1) - 1} {
			// count * count * 2^n with n even, as near to the least number as can be.
			n := last + last&1
			checkSquareRoot(t, f, counted(f, 0, count*count, n), always(counted(f, 0, count, n/2), exact))
		}
		// The greatest is 4 to a whole power, less one step below that.
		root := counted(f, 0, 1, (l.emax+1)/2)
		checkSquareRoot(t, f, infinityOf(f, 0)-1, between(root-1, inexact, belowHalf[0]))
		checkSquareRoot(t, f, infinityOf(f, 0)-2, between(root-2, inexact, aboveHalf[0]))
		normal := uint64(1) << (l.precision - 1)
		root = counted(f, 0, 1, l.emin/2)
		checkSquareRoot(t, f, normal, always(root, exact))
		// 2^emin less one step of that size above it: the root of 1 - u is 1 - u/2 - u^2/8 ..
		checkSquareRoot(t, f, normal-1, between(root-2, inexact, aboveHalf[0]))
	}
	// The answers themselves, once: 2^-149, 2^-148, 2^-1074, 2^-1073.
	checkSquareRoot(t, impl.F32, 1, between(0x1a3504f3, 16, belowHalf[0]))
	checkSquareRoot(t, impl.F32, 2, always(0x1a800000, 0))
	checkSquareRoot(t, impl.F64, 1, always(0x1e60000000000000, 0))
	checkSquareRoot(t, impl.F64, 2, between(0x1e66a09e667f3bcc, 16, aboveHalf[0]))
}

func TestRemaindersOfZerosAndInfinities(t *testing.T) {
	for _, f := range allFormats {
		numbers := edgeNumbers(f)
		for sign := range 2 {
			zero, infinity := wordOf(f, sign, 0, 0), infinityOf(f, sign)
			for _, other := range []uint64{0, turned(f, 0), infinityOf(f, 0), infinityOf(f, 1)} {
				checkRem(t, f, infinity, other, invalid(f))
			}
			checkRem(t, f, zero, 0, invalid(f))
			checkRem(t, f, zero, turned(f, 0), invalid(f))
			checkRest(t, f, zero, infinityOf(f, 0), zero)
			for _, w := range numbers {
				checkRem(t, f, infinity, w, invalid(f))
				checkRem(t, f, w, zero, invalid(f))
				checkRem(t, f, w, infinity, impl.Result{Bits: w})
				if !isZero(f, w) {
					checkRem(t, f, zero, w, impl.Result{Bits: zero})
				}
			}
		}
	}
}

// nearest is a less the multiple of b by the whole number nearest to a / b, of two the even one.
func nearest(a int, b int) int {
	n, rest := a/b, a%b
	if 2*rest > b || 2*rest == b && n%2 == 1 {
		return rest - b
	}
	return rest
}

func signed(f int, count int, exp int) uint64 {
	if count < 0 {
		return counted(f, 1, uint64(-count), exp)
	}
	return counted(f, 0, uint64(count), exp)
}

func TestRemaindersOfSmallNumbers(t *testing.T) {
	for _, f := range allFormats {
		l := layoutOf(f)
		last := l.emin - l.precision + 1
		for a := 1; a <= 70; a++ {
			for b := 1; b <= 24; b++ {
				for _, n := range []int{0, -1, 30, last, last + 1, l.emin - 4, l.emin, l.emax - 8} {
					checkRest(t, f, signed(f, a, n), signed(f, b, n), signed(f, nearest(a, b), n))
				}
			}
		}
	}
	// The answers themselves, once: 5 by 3, 3 by 2, 1 by 2, 6 by 3.
	checkRest(t, impl.F32, 0x40a00000, 0x40400000, 0xbf800000)
	checkRest(t, impl.F32, 0x40400000, 0x40000000, 0xbf800000)
	checkRest(t, impl.F32, 0x3f800000, 0x40000000, 0x3f800000)
	checkRest(t, impl.F32, 0x40c00000, 0x40400000, 0)
}

func TestRemaindersOfLessThanTheDivisor(t *testing.T) {
	for _, f := range allFormats {
		l := layoutOf(f)
		last := l.emin - l.precision + 1
		for _, count := range []uint64{1 << (l.precision - 1), 1<<(l.precision-1) + 1, 1<<l.precision - 3, 1<<l.precision - 1} {
			for _, n := range []int{last + 1, last + 2, -l.precision, 0, l.emax - l.precision + 1} {
				b, half := counted(f, 0, count, n), counted(f, 0, count, n-1)
				checkRest(t, f, half, b, half)
				checkRest(t, f, half-1, b, half-1)
				checkRest(t, f, 1, b, 1)
				checkRest(t, f, b, b, 0)
				// Between half and all of it, one step from either end.
				if half+1 != counted(f, 0, 1<<l.precision, n-1) {
					checkRest(t, f, half+1, b, counted(f, 1, count-1, n-1))
				}
				if count > 1<<(l.precision-1) {
					checkRest(t, f, b-1, b, counted(f, 1, 1, n))
				}
				if n+l.precision <= l.emax {
					checkRest(t, f, b, counted(f, 0, count, n+1), b)
				}
			}
		}
		// One and a half, two and a half times the divisor.
		for _, b := range []uint64{2, 6, 1<<(l.precision-3) - 2} {
			for _, n := range []int{last, last + 2, 0, l.emax - l.precision} {
				half := counted(f, 0, b/2, n)
				checkRest(t, f, counted(f, 0, b+b/2, n), counted(f, 0, b, n), turned(f, half))
				checkRest(t, f, counted(f, 0, 2*b+b/2, n), counted(f, 0, b, n), half)
				checkRest(t, f, counted(f, 0, 3*b+b/2, n), counted(f, 0, b, n), turned(f, half))
			}
		}
	}
}

// powerModulo is 2^n modulo b.
func powerModulo(n int, b uint64) uint64 {
	out := 1 % b
	for range n {
		out = out * 2 % b
	}
	return out
}

// The quotient has as many whole binary places as the format has exponents, and more.
func TestRemaindersOfNumbersFarApart(t *testing.T) {
	for _, f := range allFormats {
		l := layoutOf(f)
		last := l.emin - l.precision + 1
		for b := uint64(1); b <= 99; b++ {
			for _, n := range []int{0, 1, 40, l.precision, l.emax - last - l.precision, l.emax - last - 1, l.emax - last} {
				rest := int(powerModulo(n, b))
				parity := int(powerModulo(n, 2*b)) / int(b)
				want := nearest(parity*int(b)+rest, int(b))
				checkRest(t, f, counted(f, 0, 1, last+n), b, signed(f, want, last))
			}
			great := int((1<<l.precision - 1) % b * powerModulo(l.emax-last-l.precision+1, b) % b)
			if 2*great != int(b) {
				checkRest(t, f, infinityOf(f, 0)-1, b, signed(f, nearest(great, int(b)), last))
			}
		}
		normal := uint64(1) << (l.precision - 1)
		greatest := infinityOf(f, 0) - 1
		checkRest(t, f, greatest, 1, 0)
		checkRest(t, f, greatest, 2, 0)
		checkRest(t, f, greatest, normal, 0)
		checkRest(t, f, 1, greatest, 1)
		checkRest(t, f, normal-1, greatest, normal-1)
		checkRest(t, f, normal-1, normal, turned(f, 1))
		checkRest(t, f, normal+1, normal-1, 2)
		// Modulo 2^(p-1) - 1 the powers of 2 come round, and the greatest number is 2^n.
		n := (l.emax - last - l.precision + 1) % (l.precision - 1)
		checkRest(t, f, greatest, normal-1, counted(f, 0, 1, last+n))
		for k := range 3 * l.precision {
			want := counted(f, 0, 1, last+k%(l.precision-1))
			if k%(l.precision-1) == l.precision-2 {
				want = counted(f, 1, normal/2-1, last)
			}
			checkRest(t, f, counted(f, 0, 1, last+k), normal-1, want)
		}
	}
}

func checkThroughByWords(t *testing.T, f int, mode int, a uint64, b uint64) {
	t.Helper()
	want := quotientByWords(f, mode, a, b)
	if got := impl.Div(f, mode, a, b); got != want {
		t.Errorf("Div(%d, %d, %#x, %#x) is %#x, not %#x", f, mode, a, b, got, want)
	}
}

// tinyQuotient is a number whose quotient by b has about the least exponent.
func (m *mixed) tinyQuotient(f int, b uint64) uint64 {
	l := layoutOf(f)
	q := wordOf(f, 0, m.next()%3, m.next()&(1<<(l.precision-1)-1)>>(m.next()%uint64(l.precision)))
	return impl.Mul(f, impl.RZero, q, b).Bits + m.next()%3
}

func TestQuotientsByWords(t *testing.T) {
	for _, f := range allFormats {
		words := someOperands(f)
		m := mixed(30)
		for _, mode := range allModes {
			for _, a := range words {
				for _, b := range words {
					checkThroughByWords(t, f, mode, a, b)
				}
			}
			for range 1500 {
				a, b := m.number(f), m.number(f)
				checkThroughByWords(t, f, mode, a, b)
				checkThroughByWords(t, f, mode, a, m.beside(f, a))
				checkThroughByWords(t, f, mode, m.nearOne(f), m.nearOne(f))
				checkThroughByWords(t, f, mode, m.tinyQuotient(f, b), b)
			}
		}
	}
}

func TestRootsByWords(t *testing.T) {
	for _, f := range allFormats {
		words := append(someOperands(f), edgeNumbers(f)...)
		m := mixed(31)
		for range 2000 {
			w := m.number(f)
			square := impl.Mul(f, impl.REven, w, w).Bits
			words = append(words, w&^wordOf(f, 1, 0, 0), square, square+1, m.next()>>(65-layoutOf(f).precision))
		}
		for _, w := range words {
			for _, mode := range allModes {
				want := rootByWords(f, mode, w)
				if got := impl.Sqrt(f, mode, w); got != want {
					t.Errorf("Sqrt(%d, %d, %#x) is %#x, not %#x", f, mode, w, got, want)
				}
			}
		}
	}
}

// nearMultiple is a multiple of b, or a half more, as near as the format has it.
func (m *mixed) nearMultiple(f int, b uint64) uint64 {
	n := counted(f, int(m.next()%2), m.next()>>(65-layoutOf(f).precision+int(m.next()%20)), -1)
	return impl.Mul(f, impl.RZero, n, b).Bits
}

func remainderPairs(f int, ask func(a uint64, b uint64)) {
	words := append(someOperands(f), edgeNumbers(f)...)
	for _, a := range words {
		for _, b := range words {
			ask(a, b)
		}
	}
	m := mixed(32)
	for range 6000 {
		a := m.number(f)
		ask(a, m.number(f))
		ask(a, m.beside(f, a))
		ask(m.beside(f, a), a)
		ask(m.nearOne(f), m.nearOne(f))
		ask(m.nearMultiple(f, a), a)
		ask(a, m.next()>>(65-layoutOf(f).precision+int(m.next()%20)))
	}
}

func TestRemaindersByWords(t *testing.T) {
	for _, f := range allFormats {
		asked := 0
		remainderPairs(f, func(a uint64, b uint64) {
			// In rational numbers far too slow for all of them.
			asked++
			if asked%4 == 0 {
				checkRem(t, f, a, b, remainderByWords(f, a, b))
			}
		})
	}
}

// The machine's own arithmetic rounds to even. Double rounding does no harm to a root of the shorter format, and there
// is none in a remainder, which is exact.
func TestDivideByTheLibrary(t *testing.T) {
	const f32, f64, even = impl.F32, impl.F64, impl.REven
	m := mixed(33)
	for range 200000 {
		a := m.number(f32)
		x := math.Float32frombits(uint32(a))
		checkBits(t, "Sqrt", f32, []uint64{a}, impl.Sqrt(f32, even, a).Bits, uint64(math.Float32bits(float32(math.Sqrt(float64(x))))))
		for _, b := range []uint64{m.number(f32), m.beside(f32, a)} {
			y := math.Float32frombits(uint32(b))
			through := x / y
			ws := []uint64{a, b}
			checkBits(t, "Div", f32, ws, impl.Div(f32, even, a, b).Bits, uint64(math.Float32bits(through)))
			if !isZero(f32, b) {
				rest := math.Float32bits(float32(math.Remainder(float64(x), float64(y))))
				checkBits(t, "Rem", f32, ws, impl.Rem(f32, a, b).Bits, uint64(rest))
			}
		}
		a = m.number(f64)
		u := math.Float64frombits(a)
		checkBits(t, "Sqrt", f64, []uint64{a}, impl.Sqrt(f64, even, a).Bits, math.Float64bits(math.Sqrt(u)))
		for _, b := range []uint64{m.number(f64), m.beside(f64, a)} {
			v := math.Float64frombits(b)
			through := u / v
			ws := []uint64{a, b}
			checkBits(t, "Div", f64, ws, impl.Div(f64, even, a, b).Bits, math.Float64bits(through))
		}
		for _, b := range []uint64{m.beside(f64, a), a ^ m.word()>>12} {
			if rest := math.Remainder(u, math.Float64frombits(b)); !isZero(f64, b) {
				checkBits(t, "Rem", f64, []uint64{a, b}, impl.Rem(f64, a, b).Bits, math.Float64bits(rest))
			}
		}
	}
}

// isAbove tells whether x * y is more than z, with magnitudes: upward, a sum comes to more than 0 just if it is.
func isAbove(f int, x uint64, y uint64, z uint64) bool {
	difference := impl.Fma(f, impl.RUp, x, y, turned(f, z)).Bits
	return signOf(f, difference) == 0 && !isZero(f, difference)
}

func magnitudeOf(f int, w uint64) uint64 {
	return w &^ wordOf(f, 1, 0, 0)
}

func isNumber(f int, w uint64) bool {
	return !isNaN(f, w) && !isInfinity(f, w)
}

func TestQuotientsTowardZeroAreNotTooGreat(t *testing.T) {
	for _, f := range allFormats {
		asked := 0
		pairs(f, func(mode int, a uint64, b uint64) {
			if mode != impl.RZero || !isNumber(f, a) || !isNumber(f, b) || isZero(f, a) || isZero(f, b) {
				return
			}
			asked++
			q := magnitudeOf(f, impl.Div(f, mode, a, b).Bits)
			x, y := magnitudeOf(f, a), magnitudeOf(f, b)
			if !isNumber(f, q) || isAbove(f, q, y, x) {
				t.Errorf("Div(%d, %d, %#x, %#x) is too great: %#x", f, mode, a, b, q)
			}
			if !isAbove(f, impl.NextUp(f, q), y, x) {
				t.Errorf("Div(%d, %d, %#x, %#x) is too small: %#x", f, mode, a, b, q)
			}
		})
		if asked < 50000 {
			t.Errorf("format %d: only %d pairs", f, asked)
		}
	}
}

func TestRootsTowardZeroAreNotTooGreat(t *testing.T) {
	for _, f := range allFormats {
		for _, w := range someNumbers(f, 50000) {
			a := magnitudeOf(f, w)
			if isZero(f, a) {
				continue
			}
			root := impl.Sqrt(f, impl.RZero, a).Bits
			if !isNumber(f, root) || signOf(f, root) == 1 || isAbove(f, root, root, a) {
				t.Errorf("Sqrt(%d, %d, %#x) is too great: %#x", f, impl.RZero, a, root)
			}
			if next := impl.NextUp(f, root); !isAbove(f, next, next, a) {
				t.Errorf("Sqrt(%d, %d, %#x) is too small: %#x", f, impl.RZero, a, root)
			}
		}
	}
}

func TestRemaindersAreAtMostHalfAndStay(t *testing.T) {
	for _, f := range allFormats {
		two := counted(f, 0, 2, 0)
		remainderPairs(f, func(a uint64, b uint64) {
			if !isNumber(f, a) || !isNumber(f, b) || isZero(f, a) || isZero(f, b) {
				return
			}
			r := impl.Rem(f, a, b)
			if r.Flags != exact || !isNumber(f, r.Bits) || isAbove(f, magnitudeOf(f, r.Bits), two, magnitudeOf(f, b)) {
				t.Errorf("Rem(%d, %#x, %#x) is more than half: %#x", f, a, b, r)
			}
			checkRem(t, f, r.Bits, b, r)
		})
	}
}
