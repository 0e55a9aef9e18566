package tests

import (
	"math"
	"testing"

	"loop.example/s01330/impl"
)

const (
	exact     = 0
	inexact   = impl.FlagInexact
	tooLittle = impl.FlagInexact + impl.FlagUnderflow
)

// always is the same answer in all ways.
func always(w uint64, flags int) inAllModes {
	return between(w, flags, [5]uint64{})
}

// atGreatest are the answers for a number between the greatest finite one and 2^(emax + 1): whether it overflows, by way.
func atGreatest(f int, sign int, reaching [5]uint64) inAllModes {
	out := always(infinityOf(f, sign)-1, inexact)
	for mode, up := range reaching {
		if up == 1 {
			out[mode] = overflowed(f, mode, sign == 1)
		}
	}
	return out
}

// ofNothing are the answers for a sum that is 0 without its operands saying of which sign.
func ofNothing(f int) inAllModes {
	out := always(0, exact)
	out[impl.RDown].Bits = wordOf(f, 1, 0, 0)
	return out
}

// checkPlus asks for a + b in both orders, and for a - (-b).
func checkPlus(t *testing.T, f int, a uint64, b uint64, want inAllModes) {
	t.Helper()
	for mode, r := range want {
		if got := impl.Add(f, mode, a, b); got != r {
			t.Errorf("Add(%d, %d, %#x, %#x) is %#x, not %#x", f, mode, a, b, got, r)
		}
		if got := impl.Add(f, mode, b, a); got != r {
			t.Errorf("Add(%d, %d, %#x, %#x) is %#x, not %#x", f, mode, b, a, got, r)
		}
		if got := impl.Sub(f, mode, a, turned(f, b)); got != r {
			t.Errorf("Sub(%d, %d, %#x, %#x) is %#x, not %#x", f, mode, a, turned(f, b), got, r)
		}
		if got := impl.Sub(f, mode, b, turned(f, a)); got != r {
			t.Errorf("Sub(%d, %d, %#x, %#x) is %#x, not %#x", f, mode, b, turned(f, a), got, r)
		}
	}
}

// checkTimes asks for a * b in both orders.
func checkTimes(t *testing.T, f int, a uint64, b uint64, want inAllModes) {
	t.Helper()
	for mode, r := range want {
		if got := impl.Mul(f, mode, a, b); got != r {
			t.Errorf("Mul(%d, %d, %#x, %#x) is %#x, not %#x", f, mode, a, b, got, r)
		}
		if got := impl.Mul(f, mode, b, a); got != r {
			t.Errorf("Mul(%d, %d, %#x, %#x) is %#x, not %#x", f, mode, b, a, got, r)
		}
	}
}

// checkFused asks for a * b + c with the first two in both orders.
func checkFused(t *testing.T, f int, a uint64, b uint64, c uint64, want inAllModes) {
	t.Helper()
	for mode, r := range want {
		if got := impl.Fma(f, mode, a, b, c); got != r {
			t.Errorf("Fma(%d, %d, %#x, %#x, %#x) is %#x, not %#x", f, mode, a, b, c, got, r)
		}
		if got := impl.Fma(f, mode, b, a, c); got != r {
			t.Errorf("Fma(%d, %d, %#x, %#x, %#x) is %#x, not %#x", f, mode, b, a, c, got, r)
		}
	}
}

// inBoth runs a test in both formats and with both signs.
func inBoth(test func(f int, sign int)) {
	for _, f := range allFormats {
		for sign := range 2 {
			test(f, sign)
		}
	}
}

func TestArithOfNoFormatOrWay(t *testing.T) {
	check := func(f int, mode int, want impl.Result) {
		t.Helper()
		for _, w := range []uint64{0, 1, 0x3f800000, 0x7fc00000, nan64, all} {
			got := []impl.Result{
				impl.Add(f, mode, w, w), impl.Sub(f, mode, w, w), impl.Mul(f, mode, w, w), impl.Fma(f, mode, w, w, w),
			}
			for i, r := range got {
				if r != want {
					t.Errorf("function %d of format %d, way %d and %#x is %#x, not %#x", i, f, mode, w, r, want)
				}
			}
		}
	}
	for _, f := range noFormats {
		check(f, impl.REven, impl.Result{Bits: nan64, Flags: impl.FlagInvalid})
		check(f, impl.RDown, impl.Result{Bits: nan64, Flags: impl.FlagInvalid})
		check(f, -1, impl.Result{Bits: nan64, Flags: impl.FlagInvalid})
	}
	for _, mode := range noModes {
		for _, f := range allFormats {
			check(f, mode, invalid(f))
		}
	}
}

func TestArithOfWordsThatDoNotFit(t *testing.T) {
	refused := invalid(impl.F32)
	fitting := []uint64{0, 0x80000000, 0x3f800000, 0x7f800000, 0xff800000, nan32, 0x7f800001}
	for _, w := range []uint64{1 << 32, 1<<32 + 1, 1<<32 + 0x3f800000, 1<<32 + nan32, 1 << 40, nan64, top, all} {
		for _, mode := range allModes {
			for _, v := range append(fitting, w) {
				got := []impl.Result{
					impl.Add(impl.F32, mode, w, v), impl.Add(impl.F32, mode, v, w),
					impl.Sub(impl.F32, mode, w, v), impl.Sub(impl.F32, mode, v, w),
					impl.Mul(impl.F32, mode, w, v), impl.Mul(impl.F32, mode, v, w),
					impl.Fma(impl.F32, mode, w, v, v), impl.Fma(impl.F32, mode, v, w, v), impl.Fma(impl.F32, mode, v, v, w),
				}
				for i, r := range got {
					if r != refused {
						t.Errorf("call %d in way %d of %#x and %#x is %#x, not %#x", i, mode, w, v, r, refused)
					}
				}
			}
		}
	}
	// The greatest word that fits, and the same bits where all words do.
	checkPlus(t, impl.F32, 1<<32-1, 0, always(nan32, 0))
	checkPlus(t, impl.F64, 1<<32, 1<<32, always(1<<33, exact))
}

func TestSumsAndProductsOfNaNs(t *testing.T) {
	for _, f := range allFormats {
		l := layoutOf(f)
		one := wordOf(f, 0, uint64(l.emax), 0)
		others := []uint64{0, turned(f, 0), 1, one, turned(f, one), infinityOf(f, 0), infinityOf(f, 1), nanOf(f)}
		for _, w := range edgeNaNs(f) {
			flags := 0
			if isSignaling(f, w) {
				flags = impl.FlagInvalid
			}
			for _, v := range others {
				checkPlus(t, f, w, v, always(nanOf(f), flags))
				checkTimes(t, f, w, v, always(nanOf(f), flags))
				for _, u := range others {
					checkFused(t, f, w, v, u, always(nanOf(f), flags))
				}
			}
			for _, v := range edgeNaNs(f) {
				both := flags
				if isSignaling(f, v) {
					both = impl.FlagInvalid
				}
				checkPlus(t, f, w, v, always(nanOf(f), both))
				checkTimes(t, f, w, v, always(nanOf(f), both))
				checkFused(t, f, w, one, v, always(nanOf(f), both))
				checkFused(t, f, w, v, 0, always(nanOf(f), both))
				checkFused(t, f, w, infinityOf(f, 0), v, always(nanOf(f), both))
				checkFused(t, f, w, 0, v, always(nanOf(f), both))
			}
		}
	}
}

func TestFmaOfNaNBesideProducts(t *testing.T) {
	for _, f := range allFormats {
		one := wordOf(f, 0, uint64(layoutOf(f).emax), 0)
		for _, w := range edgeNaNs(f) {
			flags := 0
			if isSignaling(f, w) {
				flags = impl.FlagInvalid
			}
			for s := range 4 {
				infinity, zero := infinityOf(f, s&1), wordOf(f, s>>1, 0, 0)
				checkFused(t, f, infinity, zero, w, always(nanOf(f), impl.FlagInvalid))
				checkFused(t, f, infinity, one, w, always(nanOf(f), flags))
				checkFused(t, f, infinity, infinity, w, always(nanOf(f), flags))
				checkFused(t, f, zero, zero, w, always(nanOf(f), flags))
				checkFused(t, f, zero, one, w, always(nanOf(f), flags))
				checkFused(t, f, one, one, w, always(nanOf(f), flags))
				// Too great and too small products, whose rounding must not show.
				checkFused(t, f, infinity-1, infinity-1, w, always(nanOf(f), flags))
				checkFused(t, f, 1, 1, w, always(nanOf(f), flags))
			}
		}
	}
}

func TestSumsWithInfinities(t *testing.T) {
	inBoth(func(f int, sign int) {
		infinity := infinityOf(f, sign)
		checkPlus(t, f, infinity, infinity, always(infinity, exact))
		checkPlus(t, f, infinity, turned(f, infinity), always(nanOf(f), impl.FlagInvalid))
		for _, w := range edgeNumbers(f) {
			checkPlus(t, f, infinity, w, always(infinity, exact))
		}
	})
}

func TestSumsThatAre0(t *testing.T) {
	inBoth(func(f int, sign int) {
		zero := wordOf(f, sign, 0, 0)
		checkPlus(t, f, zero, zero, always(zero, exact))
		checkPlus(t, f, zero, turned(f, zero), ofNothing(f))
		for _, w := range edgeNumbers(f) {
			if !isZero(f, w) {
				checkPlus(t, f, w, turned(f, w), ofNothing(f))
				checkPlus(t, f, w, zero, always(w, exact))
			}
		}
	})
}

// The greater one is 1, a power of 2: the step below it is half of the one above.
func TestSumsOf1AndLittle(t *testing.T) {
	inBoth(func(f int, sign int) {
		l := layoutOf(f)
		one := counted(f, sign, 1, 0)
		more, less := sign, 1-sign
		half := counted(f, more, 1, -l.precision)
		checkPlus(t, f, one, half, between(one, inexact, halfFromEven[sign]))
		checkPlus(t, f, one, half-1, between(one, inexact, belowHalf[sign]))
		checkPlus(t, f, one, half+1, between(one, inexact, aboveHalf[sign]))
		checkPlus(t, f, one+1, half, between(one+1, inexact, halfFromOdd[sign]))
		checkPlus(t, f, one+2, half, between(one+2, inexact, halfFromEven[sign]))
		checkPlus(t, f, one, counted(f, more, 1, 1-l.precision), always(one+1, exact))
		checkPlus(t, f, one, counted(f, more, 3, -l.precision), between(one+1, inexact, halfFromOdd[sign]))
		half = counted(f, less, 1, -l.precision-1)
		checkPlus(t, f, one, half, between(one-1, inexact, halfFromOdd[sign]))
		checkPlus(t, f, one, half-1, between(one-1, inexact, aboveHalf[sign]))
		checkPlus(t, f, one, half+1, between(one-1, inexact, belowHalf[sign]))
		checkPlus(t, f, one, counted(f, less, 1, -l.precision), always(one-1, exact))
		checkPlus(t, f, one, counted(f, less, 3, -l.precision-1), between(one-2, inexact, halfFromEven[sign]))
		// 1 with an odd last place, so the steps on both sides are the same.
		half = counted(f, less, 1, -l.precision)
		checkPlus(t, f, one+1, half, between(one, inexact, halfFromEven[sign]))
		checkPlus(t, f, one+2, half, between(one+1, inexact, halfFromOdd[sign]))
		checkPlus(t, f, one+1, half-1, between(one, inexact, aboveHalf[sign]))
		checkPlus(t, f, one+1, half+1, between(one, inexact, belowHalf[sign]))
		full := uint64(1)<<(l.precision-1) - 1
		checkPlus(t, f, one+full, turned(f, half), between(one+full, inexact, halfFromOdd[sign]))
		checkPlus(t, f, one+full+1, half, between(one+full, inexact, halfFromOdd[sign]))
	})
}

func TestSumsOfNumbersFarApart(t *testing.T) {
	inBoth(func(f int, sign int) {
		l := layoutOf(f)
		for _, greater := range []int{0, 1, l.precision, l.emax - 1, l.emin + 2*l.precision} {
			for n := l.emin - l.precision + 1; n < greater-l.precision-1; n++ {
				if n > l.emin+2 && n < greater-4*l.precision && n%7 != 0 {
					continue
				}
				g := counted(f, sign, 1, greater)
				for _, w := range []uint64{g, g + 1, g + 2, g + 1<<(l.precision-1) - 1} {
					checkPlus(t, f, w, counted(f, sign, 1, n), between(w, inexact, belowHalf[sign]))
					checkPlus(t, f, w, counted(f, 1-sign, 1, n), between(w-1, inexact, aboveHalf[sign]))
				}
			}
		}
	})
}

func TestSumsOfNumbersNearlyTheSame(t *testing.T) {
	inBoth(func(f int, sign int) {
		l := layoutOf(f)
		for n := l.emin; n <= l.emax; n++ {
			if n > l.emin+l.precision+2 && n < l.emax-2 && n%13 != 0 {
				continue
			}
			w := counted(f, sign, 1, n)
			last := n - l.precision + 1
			checkPlus(t, f, w+1, turned(f, w), always(counted(f, sign, 1, last), exact))
			checkPlus(t, f, w+3, turned(f, w), always(counted(f, sign, 3, last), exact))
			checkPlus(t, f, w, turned(f, w+1), always(counted(f, 1-sign, 1, last), exact))
			below := max(last-1, l.emin-l.precision+1)
			checkPlus(t, f, w, turned(f, w-1), always(counted(f, sign, 1, below), exact))
			checkPlus(t, f, w-1, turned(f, w), always(counted(f, 1-sign, 1, below), exact))
			if n > l.emin {
				checkPlus(t, f, w+1, turned(f, w-1), always(counted(f, sign, 3, below), exact))
			}
		}
	})
}

func TestSumsThatOverflow(t *testing.T) {
	inBoth(func(f int, sign int) {
		l := layoutOf(f)
		greatest := infinityOf(f, sign) - 1
		half := counted(f, sign, 1, l.emax-l.precision)
		checkPlus(t, f, greatest, greatest, overflows(f, sign))
		checkPlus(t, f, greatest, turned(f, greatest), ofNothing(f))
		checkPlus(t, f, counted(f, sign, 1, l.emax), counted(f, sign, 1, l.emax), overflows(f, sign))
		checkPlus(t, f, greatest, counted(f, sign, 1, l.emax-l.precision+1), overflows(f, sign))
		checkPlus(t, f, greatest-1, counted(f, sign, 1, l.emax-l.precision+1), always(greatest, exact))
		checkPlus(t, f, greatest, half, atGreatest(f, sign, halfFromOdd[sign]))
		checkPlus(t, f, greatest, half+1, atGreatest(f, sign, aboveHalf[sign]))
		checkPlus(t, f, greatest, half-1, atGreatest(f, sign, belowHalf[sign]))
		checkPlus(t, f, greatest, wordOf(f, sign, 0, 1), atGreatest(f, sign, belowHalf[sign]))
		checkPlus(t, f, greatest, wordOf(f, 1-sign, 0, 1), between(greatest-1, inexact, aboveHalf[sign]))
	})
	// The answers themselves, once.
	checkPlus(t, impl.F32, 0x7f7fffff, 0x7f7fffff, between(0x7f7fffff, 20, [5]uint64{1, 1, 0, 1, 0}))
	checkPlus(t, impl.F32, 0xff7fffff, 0xff7fffff, between(0xff7fffff, 20, [5]uint64{1, 1, 0, 0, 1}))
}

// Up to two times 2^emin words count in steps of the least number, so they add like integers.
func TestSumsWithExponentBits0(t *testing.T) {
	inBoth(func(f int, sign int) {
		normal := uint64(1) << (layoutOf(f).precision - 1)
		minus := wordOf(f, sign, 0, 0)
		words := []uint64{1, 2, 3, normal / 2, normal/2 + 1, normal - 2, normal - 1, normal, normal + 1}
		for _, a := range words {
			for _, b := range words {
				if a+b < 2*normal {
					checkPlus(t, f, minus|a, minus|b, always(minus|(a+b), exact))
				}
				if a > b {
					checkPlus(t, f, minus|a, turned(f, minus|b), always(minus|(a-b), exact))
				}
			}
		}
	})
}

func TestProductsWithInfinitiesAndZeros(t *testing.T) {
	for _, f := range allFormats {
		for s := range 4 {
			a, b := s&1, s>>1
			zero, infinity := wordOf(f, a^b, 0, 0), infinityOf(f, a^b)
			checkTimes(t, f, infinityOf(f, a), wordOf(f, b, 0, 0), always(nanOf(f), impl.FlagInvalid))
			checkTimes(t, f, infinityOf(f, a), infinityOf(f, b), always(infinity, exact))
			checkTimes(t, f, wordOf(f, a, 0, 0), wordOf(f, b, 0, 0), always(zero, exact))
			for _, w := range []uint64{1, 2, 1 << 20, counted(f, 0, 1, 0), counted(f, 0, 5, -3), infinityOf(f, 0) - 1} {
				w |= wordOf(f, b, 0, 0)
				checkTimes(t, f, infinityOf(f, a), w, always(infinity, exact))
				checkTimes(t, f, wordOf(f, a, 0, 0), w, always(zero, exact))
			}
		}
	}
}

// factored is a product that lies so near to a power of 2 that its rounding is easily told.
type factored struct {
	a uint64
	b uint64
}

// By format: quarters, halves and three quarters of the last place above and below a power of 2.
var (
	quarterAbove = [2]factored{{4051, 8283}, {134201345, 134234113}}          // 2^(p+1) + 1
	halfAbove    = [2]factored{{97, 172961}, {3, 3002399751580331}}           // 2^p + 1
	threeAbove   = [2]factored{{5, 6710887}, {1422061, 12667809967}}          // 2^(p+1) + 3
	threeBelow   = [2]factored{{5197, 12913}, {28922735, 1245691219}}         // 2^(p+2) - 3
	halfBelow    = [2]factored{{1801, 18631}, {134217727, 134217729}}         // 2^(p+1) - 1
	quarterBelow = [2]factored{{8191, 8193}, {177927641, 202491287}}          // 2^(p+2) - 1
	fullBelow    = [2]factored{{1<<12 - 1, 1<<12 + 1}, {6361, 1416003655831}} // 2^p - 1
)

func TestTheFactors(t *testing.T) {
	for _, f := range allFormats {
		p := layoutOf(f).precision
		for _, c := range []struct {
			pair factored
			want uint64
		}{
			{quarterAbove[f], 1<<(p+1) + 1}, {halfAbove[f], 1<<p + 1}, {threeAbove[f], 1<<(p+1) + 3},
			{threeBelow[f], 1<<(p+2) - 3}, {halfBelow[f], 1<<(p+1) - 1}, {quarterBelow[f], 1<<(p+2) - 1},
			{fullBelow[f], 1<<p - 1},
		} {
			if c.pair.a*c.pair.b != c.want {
				t.Fatalf("%d * %d is not %d", c.pair.a, c.pair.b, c.want)
			}
		}
	}
}

// checkFactored multiplies the pair, scaled by 2^exp in all, with both pairs of signs that give the product its sign.
func checkFactored(t *testing.T, f int, sign int, pair factored, exp int, want inAllModes) {
	t.Helper()
	low := exp / 2
	for s := range 2 {
		checkTimes(t, f, counted(f, s, pair.a, low), counted(f, s^sign, pair.b, exp-low), want)
	}
}

func TestProductsBetweenNeighbours(t *testing.T) {
	inBoth(func(f int, sign int) {
		p := layoutOf(f).precision
		for _, n := range []int{0, 1, -1, 20, -20, 60, -60} {
			w := counted(f, sign, 1, n)
			checkFactored(t, f, sign, quarterAbove[f], n-p-1, between(w, inexact, belowHalf[sign]))
			checkFactored(t, f, sign, halfAbove[f], n-p, between(w, inexact, halfFromEven[sign]))
			checkFactored(t, f, sign, threeAbove[f], n-p-1, between(w, inexact, aboveHalf[sign]))
			checkFactored(t, f, sign, threeBelow[f], n-p-2, between(w-1, inexact, belowHalf[sign]))
			checkFactored(t, f, sign, halfBelow[f], n-p-1, between(w-1, inexact, halfFromOdd[sign]))
			checkFactored(t, f, sign, quarterBelow[f], n-p-2, between(w-1, inexact, aboveHalf[sign]))
			checkFactored(t, f, sign, fullBelow[f], n-p, always(w-1, exact))
		}
	})
}

func TestProductsThatOverflow(t *testing.T) {
	inBoth(func(f int, sign int) {
		l := layoutOf(f)
		greatest := infinityOf(f, sign) - 1
		one, two := counted(f, 0, 1, 0), counted(f, 0, 2, 0)
		over := overflows(f, sign)
		checkTimes(t, f, greatest, one, always(greatest, exact))
		checkTimes(t, f, greatest, one+1, over)
		checkTimes(t, f, greatest, two, over)
		checkTimes(t, f, greatest, infinityOf(f, 0)-1, over)
		checkTimes(t, f, turned(f, greatest), infinityOf(f, 1)-1, over)
		checkTimes(t, f, counted(f, sign, 1, l.emax), two, over)
		checkTimes(t, f, counted(f, sign, 1, l.emax), two-1, always(greatest, exact))
		n := l.emax + 1
		p := l.precision
		checkFactored(t, f, sign, fullBelow[f], n-p, always(greatest, exact))
		checkFactored(t, f, sign, threeBelow[f], n-p-2, atGreatest(f, sign, belowHalf[sign]))
		checkFactored(t, f, sign, halfBelow[f], n-p-1, atGreatest(f, sign, halfFromOdd[sign]))
		checkFactored(t, f, sign, quarterBelow[f], n-p-2, atGreatest(f, sign, aboveHalf[sign]))
		checkFactored(t, f, sign, quarterAbove[f], n-p-1, over)
	})
}

func TestProductsThatAreTiny(t *testing.T) {
	inBoth(func(f int, sign int) {
		l := layoutOf(f)
		minus := wordOf(f, sign, 0, 0)
		least := minus | 1
		half := counted(f, 0, 1, -1)
		checkTimes(t, f, least, half, between(minus, tooLittle, halfFromEven[sign]))
		checkTimes(t, f, least, half-1, between(minus, tooLittle, belowHalf[sign]))
		checkTimes(t, f, least, half+1, between(minus, tooLittle, aboveHalf[sign]))
		checkTimes(t, f, least, counted(f, 0, 1, 0)-1, between(minus, tooLittle, aboveHalf[sign]))
		checkTimes(t, f, least, counted(f, 0, 1, 0)+1, between(least, tooLittle, belowHalf[sign]))
		checkTimes(t, f, least, counted(f, 0, 3, -1), between(least, tooLittle, halfFromOdd[sign]))
		for _, w := range []uint64{1, 1 << 10, 1<<(l.precision-1) - 1, 1 << (l.precision - 1), counted(f, 0, 1, -2)} {
			checkTimes(t, f, least, w, between(minus, tooLittle, belowHalf[sign]))
		}
		// Half of a number with exponent bits 0 or 1.
		normal := uint64(1) << (l.precision - 1)
		for _, w := range []uint64{2, 4, normal - 2, normal, normal + 2, 2*normal - 2} {
			checkTimes(t, f, minus|w, half, always(minus|w/2, exact))
		}
		checkTimes(t, f, minus|(normal-1), half, between(minus|(normal/2-1), tooLittle, halfFromOdd[sign]))
		checkTimes(t, f, minus|(normal+1), half, between(minus|normal/2, tooLittle, halfFromEven[sign]))
		// Rounded up to 2^emin, and tiny all the same: with a lesser exponent it would be exact.
		checkTimes(t, f, minus|(2*normal-1), half, between(minus|(normal-1), tooLittle, halfFromOdd[sign]))
	})
}

// Just below 2^emin the way of rounding says whether the product would come to 2^emin without a least exponent too.
func TestProductsRoundedUpToTheLeastExponent(t *testing.T) {
	inBoth(func(f int, sign int) {
		l := layoutOf(f)
		w := wordOf(f, sign, 0, 1<<(l.precision-1)-1)
		p := l.precision
		reaching := func(greater [5]uint64) inAllModes {
			out := between(w, tooLittle, aboveHalf[sign])
			for mode, up := range greater {
				if up == 1 {
					out[mode].Flags = inexact
				}
			}
			return out
		}
		checkFactored(t, f, sign, threeBelow[f], l.emin-p-2, reaching(belowHalf[sign]))
		checkFactored(t, f, sign, halfBelow[f], l.emin-p-1, reaching(halfFromOdd[sign]))
		checkFactored(t, f, sign, quarterBelow[f], l.emin-p-2, reaching(aboveHalf[sign]))
		checkFactored(t, f, sign, quarterAbove[f], l.emin-p-1, between(w+1, inexact, belowHalf[sign]))
		checkFactored(t, f, sign, halfAbove[f], l.emin-p, between(w+1, inexact, halfFromEven[sign]))
	})
}

func TestProductsOfOperandsWithExponentBits0(t *testing.T) {
	inBoth(func(f int, sign int) {
		l := layoutOf(f)
		last := l.emin - l.precision + 1
		for _, count := range []uint64{1, 2, 3, 5, 1<<(l.precision-2) + 1, 1<<(l.precision-1) - 1} {
			for _, n := range []int{0, 1, 2, l.precision, 60, l.emax} {
				want := always(counted(f, sign, count, last+n), exact)
				checkTimes(t, f, wordOf(f, sign, 0, count), counted(f, 0, 1, n), want)
				checkTimes(t, f, wordOf(f, 1, 0, count), counted(f, 1-sign, 1, n), want)
			}
		}
		// (2^p - 1) * (2^p - 1) is 2^2p - 2^(p+1) + 1: a little above 2^p - 2.
		full := counted(f, 0, 1<<l.precision-1, 0)
		small := wordOf(f, sign, 0, 1<<(l.precision-1)-1)
		checkTimes(t, f, full, full|wordOf(f, sign, 0, 0),
			between(counted(f, sign, 1<<l.precision-2, l.precision), inexact, belowHalf[sign]))
		// (2^p - 1) * (2^(p-1) - 1) is 2^(2p-1) - 3 * 2^(p-1) + 1: a little above 2^p - 3 in places of 2^(p-1).
		checkTimes(t, f, full, small,
			between(counted(f, sign, 1<<l.precision-3, last+l.precision-1), inexact, belowHalf[sign]))
	})
}

func TestFmaWithInfinities(t *testing.T) {
	for _, f := range allFormats {
		numbers := edgeNumbers(f)
		for s := range 8 {
			a, b, c := s&1, s>>1&1, s>>2
			infinity := infinityOf(f, a)
			for _, w := range numbers {
				checkFused(t, f, infinity, wordOf(f, b, 0, 0), w, always(nanOf(f), impl.FlagInvalid))
			}
			checkFused(t, f, infinity, wordOf(f, b, 0, 0), infinityOf(f, c), always(nanOf(f), impl.FlagInvalid))
			want := always(infinityOf(f, c), exact)
			if a^b != c {
				want = always(nanOf(f), impl.FlagInvalid)
			}
			for _, w := range []uint64{1, 1 << 20, counted(f, 0, 1, 0), infinityOf(f, 0) - 1, infinityOf(f, 0)} {
				w |= wordOf(f, b, 0, 0)
				checkFused(t, f, infinity, w, infinityOf(f, c), want)
				for _, v := range numbers {
					checkFused(t, f, infinity, w, v, always(infinityOf(f, a^b), exact))
				}
			}
			// A product that would overflow is still a number beside an infinity.
			for _, w := range []uint64{0, 1, counted(f, 0, 1, 0), infinityOf(f, 0) - 1} {
				x, y := wordOf(f, a, 0, 0)|w, wordOf(f, b, 0, 0)|w
				checkFused(t, f, x, y, infinityOf(f, c), always(infinityOf(f, c), exact))
			}
		}
	}
}

func TestFmaOfProductsThatAre0(t *testing.T) {
	for _, f := range allFormats {
		for s := range 8 {
			a, b, c := s&1, s>>1&1, s>>2
			want := ofNothing(f)
			if a^b == c {
				want = always(wordOf(f, c, 0, 0), exact)
			}
			for _, w := range []uint64{0, 1, counted(f, 0, 1, 0), infinityOf(f, 0) - 1} {
				w |= wordOf(f, b, 0, 0)
				checkFused(t, f, wordOf(f, a, 0, 0), w, wordOf(f, c, 0, 0), want)
				for _, v := range edgeNumbers(f) {
					if !isZero(f, v) {
						checkFused(t, f, wordOf(f, a, 0, 0), w, v, always(v, exact))
					}
				}
			}
		}
	}
}

func TestFmaThatIs0(t *testing.T) {
	inBoth(func(f int, sign int) {
		for _, c := range []struct{ a, b uint64 }{{1, 1}, {2, 3}, {3, 5}, {1<<12 - 1, 1<<12 + 1}} {
			for _, n := range []int{0, 10, -10, 50, -50} {
				x := counted(f, sign, c.a, n)
				checkFused(t, f, x, counted(f, 0, c.b, n), counted(f, 1-sign, c.a*c.b, 2*n), ofNothing(f))
				checkFused(t, f, x, counted(f, 1, c.b, n), counted(f, sign, c.a*c.b, 2*n), ofNothing(f))
			}
		}
		l := layoutOf(f)
		least := wordOf(f, sign, 0, 1)
		checkFused(t, f, least, counted(f, 1, 1, 0), least, ofNothing(f))
		checkFused(t, f, counted(f, sign, 1, l.emin), counted(f, 1, 1, 1-l.precision), least, ofNothing(f))
		greatest := infinityOf(f, sign) - 1
		checkFused(t, f, greatest, counted(f, 1, 1, 0), greatest, ofNothing(f))
	})
}

func TestFmaOfAProductFarAboveTheThird(t *testing.T) {
	inBoth(func(f int, sign int) {
		l := layoutOf(f)
		p := l.precision
		for _, c := range []uint64{1, 2, 1<<(p-1) - 1, 1 << (p - 1), counted(f, 0, 1, -3*p)} {
			same, other := wordOf(f, sign, 0, 0)|c, wordOf(f, 1-sign, 0, 0)|c
			for _, n := range []int{0, 1, 30} {
				a := func(pair factored) uint64 { return counted(f, 0, pair.a, n) }
				b := func(pair factored, more int) uint64 { return counted(f, sign, pair.b, -n-p-more) }
				one := counted(f, sign, 1, 0)
				checkFused(t, f, a(halfAbove[f]), b(halfAbove[f], 0), same, between(one, inexact, aboveHalf[sign]))
				checkFused(t, f, a(halfAbove[f]), b(halfAbove[f], 0), other, between(one, inexact, belowHalf[sign]))
				checkFused(t, f, a(halfBelow[f]), b(halfBelow[f], 1), same, between(one-1, inexact, aboveHalf[sign]))
				checkFused(t, f, a(halfBelow[f]), b(halfBelow[f], 1), other, between(one-1, inexact, belowHalf[sign]))
				checkFused(t, f, a(fullBelow[f]), b(fullBelow[f], 0), same, between(one-1, inexact, belowHalf[sign]))
				checkFused(t, f, a(fullBelow[f]), b(fullBelow[f], 0), other, between(one-2, inexact, aboveHalf[sign]))
				checkFused(t, f, counted(f, 0, 1, n), counted(f, sign, 1, -n), same, between(one, inexact, belowHalf[sign]))
				checkFused(t, f, counted(f, 0, 1, n), counted(f, sign, 1, -n), other, between(one-1, inexact, aboveHalf[sign]))
			}
		}
		// A product at the greatest number, and one far above it.
		greatest := infinityOf(f, sign) - 1
		one := counted(f, 0, 1, 0)
		checkFused(t, f, greatest, one, wordOf(f, sign, 0, 1), atGreatest(f, sign, belowHalf[sign]))
		checkFused(t, f, greatest, one, wordOf(f, 1-sign, 0, 1), between(greatest-1, inexact, aboveHalf[sign]))
		checkFused(t, f, greatest, infinityOf(f, 0)-1, wordOf(f, 1-sign, 0, 1), overflows(f, sign))
		checkFused(t, f, greatest, infinityOf(f, 0)-1, infinityOf(f, 1-sign)-1, overflows(f, sign))
	})
}

func TestFmaOfAProductFarBelowTheThird(t *testing.T) {
	inBoth(func(f int, sign int) {
		l := layoutOf(f)
		one := counted(f, sign, 1, 0)
		greatest := infinityOf(f, sign) - 1
		least := wordOf(f, sign, 0, 1)
		normal := wordOf(f, sign, 1, 0)
		pairs := [][2]uint64{{1, 1}, {1, counted(f, 0, 1, -3)}, {wordOf(f, 0, 1, 0), 1<<(l.precision-1) - 1}}
		for _, pair := range pairs {
			same, other := pair[0]|wordOf(f, sign, 0, 0), pair[0]|wordOf(f, 1-sign, 0, 0)
			for _, w := range []uint64{one, one + 1, one + 2, one + 1<<(l.precision-1) - 1} {
				checkFused(t, f, same, pair[1], w, between(w, inexact, belowHalf[sign]))
				checkFused(t, f, other, pair[1], w, between(w-1, inexact, aboveHalf[sign]))
			}
			checkFused(t, f, same, pair[1], greatest, atGreatest(f, sign, belowHalf[sign]))
			checkFused(t, f, other, pair[1], greatest, between(greatest-1, inexact, aboveHalf[sign]))
			// Beside the least numbers the product is still far below the last place.
			checkFused(t, f, same, pair[1], least, between(least, tooLittle, belowHalf[sign]))
			checkFused(t, f, other, pair[1], least, between(least-1, tooLittle, aboveHalf[sign]))
			checkFused(t, f, same, pair[1], normal-1, between(normal-1, tooLittle, belowHalf[sign]))
			checkFused(t, f, same, pair[1], normal, between(normal, inexact, belowHalf[sign]))
		}
		// Just below 2^emin only RZero and the way towards it come to less without a least exponent.
		want := between(normal-1, inexact, aboveHalf[sign])
		want[impl.RZero].Flags, want[impl.RDown-sign].Flags = tooLittle, tooLittle
		checkFused(t, f, wordOf(f, 1-sign, 0, 1), 1, normal, want)
	})
}

func TestFmaOfAProductAllButTakenAway(t *testing.T) {
	inBoth(func(f int, sign int) {
		l := layoutOf(f)
		p := l.precision
		one := counted(f, sign, 1, 0)
		plus := counted(f, 0, 1, 0)
		// (1 + u)^2 is 1 + 2u + u^2, (1 + u)(1 - u) is 1 - u^2, with u 2^(1-p).
		checkFused(t, f, one+1, plus+1, turned(f, one+2), always(counted(f, sign, 1, 2-2*p), exact))
		checkFused(t, f, one+1, plus-2, turned(f, one), always(counted(f, 1-sign, 1, 2-2*p), exact))
		checkFused(t, f, one+1, plus+1, turned(f, one+1), always(counted(f, sign, 1<<(p-1)+1, 2-2*p), exact))
		// (2^p - 1)^2 is 2^2p - 2^(p+1) + 1.
		full := counted(f, 0, 1<<p-1, 0)
		near := counted(f, 1-sign, 1<<p-2, p)
		checkFused(t, f, full, wordOf(f, sign, 0, 0)|full, near, always(one, exact))
		checkFused(t, f, full, wordOf(f, sign, 0, 0)|full, near-1,
			between(counted(f, sign, 1<<p, 0), inexact, halfFromEven[sign]))
		for _, pair := range []factored{quarterAbove[f], halfAbove[f], threeAbove[f], threeBelow[f], halfBelow[f], quarterBelow[f]} {
			x, y := counted(f, sign, pair.a, -20), counted(f, 0, pair.b, 5)
			for _, mode := range allModes {
				back := impl.Mul(f, mode, x, y)
				rest := fusedByWords(f, mode, x, y, turned(f, back.Bits))
				if got := impl.Fma(f, mode, x, y, turned(f, back.Bits)); got != rest || got.Flags != exact || isZero(f, got.Bits) {
					t.Errorf("Fma(%d, %d, %#x, %#x, ..) less its product is %#x, not %#x", f, mode, x, y, got, rest)
				}
			}
		}
	})
}

// In these cases the product lies on a half, or rounds to what hides the rest; rounded twice, the answer is another one.
func TestFmaRoundsOnce(t *testing.T) {
	for _, f := range allFormats {
		differs := [5]int{}
		m := mixed(20)
		for range 4000 {
			a, b := m.nearOne(f), m.nearOne(f)
			c := turned(f, impl.Mul(f, impl.REven, a, b).Bits) + m.next()%5 - 2
			if m.next()%2 == 0 {
				c = m.nearOne(f)
			}
			for _, mode := range allModes {
				want := fusedByWords(f, mode, a, b, c)
				got := impl.Fma(f, mode, a, b, c)
				if got != want {
					t.Fatalf("Fma(%d, %d, %#x, %#x, %#x) is %#x, not %#x", f, mode, a, b, c, got, want)
				}
				if got.Bits != impl.Add(f, mode, impl.Mul(f, mode, a, b).Bits, c).Bits {
					differs[mode]++
				}
			}
		}
		for mode, n := range differs {
			if n < 500 {
				t.Errorf("format %d, way %d: only %d answers differ from those rounded twice", f, mode, n)
			}
		}
		// The product too great for the format, the sum not; and the product too small, the sum exact.
		l := layoutOf(f)
		great := counted(f, 0, 1, l.emax)
		checkFused(t, f, great, counted(f, 0, 2, 0), turned(f, great), always(great, exact))
		checkFused(t, f, great, counted(f, 1, 2, 0), great, always(turned(f, great), exact))
		checkFused(t, f, 3, counted(f, 0, 1, -1), 1, between(2, tooLittle, halfFromEven[0]))
		checkFused(t, f, 5, counted(f, 0, 1, -1), turned(f, 2), between(0, tooLittle, halfFromEven[0]))
	}
}

// nearOne is a number with few exponents, so that sums of such do not lie far apart.
func (m *mixed) nearOne(f int) uint64 {
	l := layoutOf(f)
	fraction := m.next() & (1<<(l.precision-1) - 1)
	if m.next()%3 == 0 {
		fraction &= fraction << (m.next() % uint64(l.precision)) & (1<<(l.precision-1) - 1)
	}
	return wordOf(f, int(m.next()%2), uint64(l.emax)+m.next()%5-2, fraction)
}

// someOperands are words of all classes: fewer than the edges, as all pairs and triples of them are asked for.
func someOperands(f int) []uint64 {
	l := layoutOf(f)
	one := counted(f, 0, 1, 0)
	normal := uint64(1) << (l.precision - 1)
	words := []uint64{
		0, 1, 2, 3, normal / 2, normal - 1, normal, normal + 1, 2*normal - 1, 2 * normal,
		counted(f, 0, 1, -l.precision-1), counted(f, 0, 1, -l.precision), counted(f, 0, 1, 1-l.precision),
		one - 2, one - 1, one, one + 1, one + 2, counted(f, 0, 3, -1), one + normal - 1, one + normal,
		counted(f, 0, 1<<l.precision-1, 0), counted(f, 0, 1, l.emax-l.precision), counted(f, 0, 1, l.emax/2+1),
		infinityOf(f, 0) - normal, infinityOf(f, 0) - 2, infinityOf(f, 0) - 1, infinityOf(f, 0),
		infinityOf(f, 0) + 1, nanOf(f),
	}
	for _, w := range words {
		words = append(words, turned(f, w))
	}
	return words
}

func checkPlusByWords(t *testing.T, f int, mode int, a uint64, b uint64) {
	t.Helper()
	want := sumByWords(f, mode, a, b)
	if got := impl.Add(f, mode, a, b); got != want {
		t.Errorf("Add(%d, %d, %#x, %#x) is %#x, not %#x", f, mode, a, b, got, want)
	}
	if got := impl.Sub(f, mode, a, turned(f, b)); got != want {
		t.Errorf("Sub(%d, %d, %#x, %#x) is %#x, not %#x", f, mode, a, turned(f, b), got, want)
	}
}

func checkTimesByWords(t *testing.T, f int, mode int, a uint64, b uint64) {
	t.Helper()
	want := productByWords(f, mode, a, b)
	if got := impl.Mul(f, mode, a, b); got != want {
		t.Errorf("Mul(%d, %d, %#x, %#x) is %#x, not %#x", f, mode, a, b, got, want)
	}
}

func checkFusedByWords(t *testing.T, f int, mode int, a uint64, b uint64, c uint64) {
	t.Helper()
	want := fusedByWords(f, mode, a, b, c)
	if got := impl.Fma(f, mode, a, b, c); got != want {
		t.Errorf("Fma(%d, %d, %#x, %#x, %#x) is %#x, not %#x", f, mode, a, b, c, got, want)
	}
}

func TestSumsAndProductsByWords(t *testing.T) {
	for _, f := range allFormats {
		words := someOperands(f)
		m := mixed(21)
		for _, mode := range allModes {
			for _, a := range words {
				for _, b := range words {
					checkPlusByWords(t, f, mode, a, b)
					checkTimesByWords(t, f, mode, a, b)
				}
			}
			for range 1000 {
				a := m.number(f)
				checkPlusByWords(t, f, mode, a, m.number(f))
				checkPlusByWords(t, f, mode, a, m.beside(f, a))
				checkPlusByWords(t, f, mode, m.nearOne(f), m.nearOne(f))
				checkTimesByWords(t, f, mode, a, m.number(f))
				checkTimesByWords(t, f, mode, m.nearOne(f), m.nearOne(f))
			}
		}
	}
}

// beside is a number with about the exponent of w, so that bits of both meet.
func (m *mixed) beside(f int, w uint64) uint64 {
	l := layoutOf(f)
	_, e, _ := fieldsOf(f, w)
	reach := uint64(l.precision) + 3
	e = min(e+m.next()%(2*reach), 1<<l.width-2+reach)
	_, _, fraction := fieldsOf(f, m.number(f))
	return wordOf(f, int(m.next()%2), max(e, reach)-reach, fraction)
}

func TestFmaByWords(t *testing.T) {
	for _, f := range allFormats {
		words := someOperands(f)
		m := mixed(22)
		// Of all triples every so many, in each way others.
		for i := range len(words) * len(words) * len(words) {
			if i%23 < 5 {
				n := len(words)
				checkFusedByWords(t, f, i%23, words[i%n], words[i/n%n], words[i/n/n])
			}
		}
		for range 4000 {
			mode := allModes[m.next()%5]
			a, b := m.number(f), m.number(f)
			checkFusedByWords(t, f, mode, a, b, m.number(f))
			if near := impl.Mul(f, mode, a, b).Bits; !isInfinity(f, near) {
				checkFusedByWords(t, f, mode, a, b, m.beside(f, near))
				checkFusedByWords(t, f, mode, a, b, turned(f, near))
			}
		}
	}
}

func checkBits(t *testing.T, what string, f int, ws []uint64, got uint64, want uint64) {
	t.Helper()
	if isNaN(f, want) {
		want = nanOf(f)
	}
	if got != want {
		t.Errorf("%s(%d, %d, %#x) is %#x, not %#x", what, f, impl.REven, ws, got, want)
	}
}

// The machine's own arithmetic rounds to even. It is asked through variables of the format, so nothing is fused.
func TestSumsAndProductsByTheLibrary(t *testing.T) {
	const f32, f64, even = impl.F32, impl.F64, impl.REven
	m := mixed(23)
	for range 300000 {
		a := m.number(f32)
		for _, b := range []uint64{m.number(f32), m.beside(f32, a)} {
			x, y := math.Float32frombits(uint32(a)), math.Float32frombits(uint32(b))
			ws := []uint64{a, b}
			plus, minus, times := x+y, x-y, x*y
			checkBits(t, "Add", f32, ws, impl.Add(f32, even, a, b).Bits, uint64(math.Float32bits(plus)))
			checkBits(t, "Sub", f32, ws, impl.Sub(f32, even, a, b).Bits, uint64(math.Float32bits(minus)))
			checkBits(t, "Mul", f32, ws, impl.Mul(f32, even, a, b).Bits, uint64(math.Float32bits(times)))
		}
		a = m.number(f64)
		for _, b := range []uint64{m.number(f64), m.beside(f64, a)} {
			x, y := math.Float64frombits(a), math.Float64frombits(b)
			ws := []uint64{a, b}
			plus, minus, times := x+y, x-y, x*y
			checkBits(t, "Add", f64, ws, impl.Add(f64, even, a, b).Bits, math.Float64bits(plus))
			checkBits(t, "Sub", f64, ws, impl.Sub(f64, even, a, b).Bits, math.Float64bits(minus))
			checkBits(t, "Mul", f64, ws, impl.Mul(f64, even, a, b).Bits, math.Float64bits(times))
			for _, c := range []uint64{m.number(f64), m.nearOne(f64), turned(f64, math.Float64bits(times))} {
				want := math.Float64bits(math.FMA(x, y, math.Float64frombits(c)))
				checkBits(t, "Fma", f64, []uint64{a, b, c}, impl.Fma(f64, even, a, b, c).Bits, want)
			}
		}
	}
}

// pairs asks for all pairs of some operands, and for pairs of numbers of all kinds.
func pairs(f int, ask func(mode int, a uint64, b uint64)) {
	words := someOperands(f)
	m := mixed(24)
	for _, mode := range allModes {
		for _, a := range words {
			for _, b := range words {
				ask(mode, a, b)
			}
		}
		for range 20000 {
			a := m.number(f)
			ask(mode, a, m.number(f))
			ask(mode, a, m.beside(f, a))
			ask(mode, m.nearOne(f), m.nearOne(f))
		}
	}
}

func TestOrderOfOperandsDoesNotMatter(t *testing.T) {
	for _, f := range allFormats {
		m := mixed(25)
		pairs(f, func(mode int, a uint64, b uint64) {
			if x, y := impl.Add(f, mode, a, b), impl.Add(f, mode, b, a); x != y {
				t.Errorf("Add(%d, %d) of %#x and %#x is %#x and %#x", f, mode, a, b, x, y)
			}
			if x, y := impl.Mul(f, mode, a, b), impl.Mul(f, mode, b, a); x != y {
				t.Errorf("Mul(%d, %d) of %#x and %#x is %#x and %#x", f, mode, a, b, x, y)
			}
			for _, c := range []uint64{0, 1, infinityOf(f, 1), infinityOf(f, 0) + 1, nanOf(f), m.number(f), m.nearOne(f)} {
				if x, y := impl.Fma(f, mode, a, b, c), impl.Fma(f, mode, b, a, c); x != y {
					t.Errorf("Fma(%d, %d) of %#x, %#x and %#x is %#x and %#x", f, mode, a, b, c, x, y)
				}
			}
		})
	}
}

func TestSubIsAddWithTheSignTurned(t *testing.T) {
	for _, f := range allFormats {
		pairs(f, func(mode int, a uint64, b uint64) {
			if x, y := impl.Sub(f, mode, a, b), impl.Add(f, mode, a, turned(f, b)); x != y {
				t.Errorf("Sub(%d, %d, %#x, %#x) is %#x, and Add with the sign turned %#x", f, mode, a, b, x, y)
			}
		})
	}
}

func mirrored(mode int) int {
	switch mode {
	case impl.RUp:
		return impl.RDown
	case impl.RDown:
		return impl.RUp
	}
	return mode
}

func turnedResult(f int, r impl.Result) impl.Result {
	if !isNaN(f, r.Bits) {
		r.Bits = turned(f, r.Bits)
	}
	return r
}

func TestTurningSignsTurnsTheResult(t *testing.T) {
	for _, f := range allFormats {
		pairs(f, func(mode int, a uint64, b uint64) {
			sum := impl.Add(f, mode, a, b)
			other := impl.Add(f, mirrored(mode), turned(f, a), turned(f, b))
			if other != turnedResult(f, sum) && (sum.Flags != 0 || !isZero(f, sum.Bits)) {
				t.Errorf("Add(%d, %d, %#x, %#x) is %#x, and with the signs turned %#x", f, mode, a, b, sum, other)
			}
			product := turnedResult(f, impl.Mul(f, mode, a, b))
			for _, other := range []impl.Result{
				impl.Mul(f, mirrored(mode), turned(f, a), b), impl.Mul(f, mirrored(mode), a, turned(f, b)),
			} {
				if other != product {
					t.Errorf("Mul(%d, %d, %#x, %#x) with a sign turned is %#x, not %#x", f, mode, a, b, other, product)
				}
			}
		})
	}
}

func TestFmaWith1IsAdd(t *testing.T) {
	for _, f := range allFormats {
		one := counted(f, 0, 1, 0)
		pairs(f, func(mode int, a uint64, c uint64) {
			if x, y := impl.Fma(f, mode, a, one, c), impl.Add(f, mode, a, c); x != y {
				t.Errorf("Fma(%d, %d, %#x, 1, %#x) is %#x, and Add %#x", f, mode, a, c, x, y)
			}
		})
	}
}

func TestFmaWithAZeroIsMul(t *testing.T) {
	for _, f := range allFormats {
		pairs(f, func(mode int, a uint64, b uint64) {
			zero := wordOf(f, signOf(f, a)^signOf(f, b), 0, 0)
			if x, y := impl.Fma(f, mode, a, b, zero), impl.Mul(f, mode, a, b); x != y {
				t.Errorf("Fma(%d, %d, %#x, %#x, zero) is %#x, and Mul %#x", f, mode, a, b, x, y)
			}
		})
	}
}
