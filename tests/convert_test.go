package tests

import (
	"math"
	"math/big"
	"testing"

	"loop.example/s01330/impl"
)

func checkFrom(t *testing.T, f int, kind int, w uint64, want inAllModes) {
	t.Helper()
	for mode, r := range want {
		if got := impl.FromInt(f, mode, kind, w); got != r {
			t.Errorf("FromInt(%d, %d, %d, %#x) is %#x, not %#x", f, mode, kind, w, got, r)
		}
	}
}

func checkTo(t *testing.T, f int, kind int, a uint64, want inAllModes) {
	t.Helper()
	for mode, r := range want {
		if got := impl.ToInt(f, mode, kind, a); got != r {
			t.Errorf("ToInt(%d, %d, %d, %#x) is %#x, not %#x", f, mode, kind, a, got, r)
		}
	}
}

func checkConvert(t *testing.T, from int, to int, a uint64, want inAllModes) {
	t.Helper()
	for mode, r := range want {
		if got := impl.Convert(from, to, mode, a); got != r {
			t.Errorf("Convert(%d, %d, %d, %#x) is %#x, not %#x", from, to, mode, a, got, r)
		}
	}
}

// checkWhole asks for the number rounded to a whole one with the flag and without.
func checkWhole(t *testing.T, f int, a uint64, want inAllModes) {
	t.Helper()
	for mode, r := range want {
		if got := impl.RoundInt(f, mode, a, true); got != r {
			t.Errorf("RoundInt(%d, %d, %#x, true) is %#x, not %#x", f, mode, a, got, r)
		}
		r.Flags &= impl.FlagInvalid
		if got := impl.RoundInt(f, mode, a, false); got != r {
			t.Errorf("RoundInt(%d, %d, %#x, false) is %#x, not %#x", f, mode, a, got, r)
		}
	}
}

// placesOf is how many binary places the greatest integer of a kind has.
func placesOf(kind int) int {
	return [4]int{impl.I32: 31, impl.I64: 63, impl.U32: 32, impl.U64: 64}[kind]
}

// farthest is the greatest magnitude that integers of a kind with the sign have.
func farthest(kind int, sign int) uint64 {
	switch {
	case sign == 0:
		return uint64(1)<<placesOf(kind) - 1
	case kind == impl.I32 || kind == impl.I64:
		return uint64(1) << placesOf(kind)
	}
	return 0
}

func integerWord(sign int, size uint64) uint64 {
	if sign == 1 {
		return -size
	}
	return size
}

// beyond are the answers for what is no integer of the kind: the end with the sign.
func beyond(kind int, sign int) inAllModes {
	return always(integerWord(sign, farthest(kind, sign)), impl.FlagInvalid)
}

// wholes are the answers of ToInt for a number between two whole ones: which of both, by way, if that is of the kind.
func wholes(kind int, sign int, lesser uint64, flags int, greater [5]uint64) inAllModes {
	out := beyond(kind, sign)
	for mode, more := range greater {
		if size := lesser + more; size <= farthest(kind, sign) {
			out[mode] = impl.Result{Bits: integerWord(sign, size), Flags: flags}
		}
	}
	return out
}

// wordsOfWholes are the answers of RoundInt for such a number.
func wordsOfWholes(f int, sign int, lesser uint64, flags int, greater [5]uint64) inAllModes {
	return eitherOf(counted(f, sign, lesser, 0), counted(f, sign, lesser+1, 0), flags, greater)
}

// eitherOf are the answers for a number between two words that need not be neighbours: which of both, by way.
func eitherOf(lesser uint64, greater uint64, flags int, which [5]uint64) inAllModes {
	out := always(lesser, flags)
	for mode, up := range which {
		if up == 1 {
			out[mode].Bits = greater
		}
	}
	return out
}

// inAllKinds runs a test in both formats, with both signs and in every kind.
func inAllKinds(test func(f int, sign int, kind int)) {
	inBoth(func(f int, sign int) {
		for _, kind := range allKinds {
			test(f, sign, kind)
		}
	})
}

// atHalf is which neighbour of a half is taken, by the lesser one.
func atHalf(sign int, lesser uint64) [5]uint64 {
	if lesser%2 == 1 {
		return halfFromOdd[sign]
	}
	return halfFromEven[sign]
}

var wordsOfAnyUse = []uint64{
	0, 1, 0x3f800000, 0x7f800000, 0x7f800001, nan32, 1<<32 - 1, 1 << 32, 0x3ff0000000000000, 0x7ff0000000000000, nan64, top, all,
}

var wordsAbove32 = []uint64{1 << 32, 1<<32 + 1, 1<<32 + 0x3f800000, 1<<32 + 0x7f800000, 1<<32 + nan32, 1 << 40, nan64, top, all}

func TestConversionsOfNoFormat(t *testing.T) {
	ways := append([]int{impl.REven, impl.RDown}, noModes...)
	for _, f := range noFormats {
		for _, w := range wordsOfAnyUse {
			for _, mode := range ways {
				for _, kind := range append([]int{-1, 4}, allKinds...) {
					if r := impl.FromInt(f, mode, kind, w); r != invalid(impl.F64) {
						t.Errorf("FromInt(%d, %d, %d, %#x) is %#x", f, mode, kind, w, r)
					}
					if r := impl.ToInt(f, mode, kind, w); r != (impl.Result{Flags: impl.FlagInvalid}) {
						t.Errorf("ToInt(%d, %d, %d, %#x) is %#x", f, mode, kind, w, r)
					}
				}
				for _, exact := range []bool{false, true} {
					if r := impl.RoundInt(f, mode, w, exact); r != invalid(impl.F64) {
						t.Errorf("RoundInt(%d, %d, %#x, %v) is %#x", f, mode, w, exact, r)
					}
				}
				// The answer is a word of the second format, so that one says which NaN it is.
				for _, other := range append([]int{f, -1, 2}, allFormats...) {
					if r := impl.Convert(other, f, mode, w); r != invalid(impl.F64) {
						t.Errorf("Convert(%d, %d, %d, %#x) is %#x", other, f, mode, w, r)
					}
				}
				for _, to := range allFormats {
					if r := impl.Convert(f, to, mode, w); r != invalid(to) {
						t.Errorf("Convert(%d, %d, %d, %#x) is %#x", f, to, mode, w, r)
					}
				}
			}
		}
	}
}

func TestConversionsOfNoWay(t *testing.T) {
	for _, mode := range noModes {
		for _, f := range allFormats {
			for _, w := range wordsOfAnyUse {
				for _, kind := range allKinds {
					if r := impl.FromInt(f, mode, kind, w); r != invalid(f) {
						t.Errorf("FromInt(%d, %d, %d, %#x) is %#x", f, mode, kind, w, r)
					}
					if r := impl.ToInt(f, mode, kind, w); r != (impl.Result{Flags: impl.FlagInvalid}) {
						t.Errorf("ToInt(%d, %d, %d, %#x) is %#x", f, mode, kind, w, r)
					}
				}
				for _, from := range allFormats {
					if r := impl.Convert(from, f, mode, w); r != invalid(f) {
						t.Errorf("Convert(%d, %d, %d, %#x) is %#x", from, f, mode, w, r)
					}
				}
				for _, exact := range []bool{false, true} {
					if r := impl.RoundInt(f, mode, w, exact); r != invalid(f) {
						t.Errorf("RoundInt(%d, %d, %#x, %v) is %#x", f, mode, w, exact, r)
					}
				}
			}
		}
	}
}

func TestConversionsOfNoKind(t *testing.T) {
	for _, f := range allFormats {
		for _, kind := range noKinds {
			for _, w := range wordsOfAnyUse {
				checkFrom(t, f, kind, w, always(nanOf(f), impl.FlagInvalid))
				checkTo(t, f, kind, w, always(0, impl.FlagInvalid))
			}
		}
	}
}

func TestConversionsOfWordsThatDoNotFit(t *testing.T) {
	for _, w := range wordsAbove32 {
		for _, kind := range allKinds {
			checkTo(t, impl.F32, kind, w, always(0, impl.FlagInvalid))
		}
		checkWhole(t, impl.F32, w, always(nan32, impl.FlagInvalid))
		for _, to := range allFormats {
			checkConvert(t, impl.F32, to, w, always(nanOf(to), impl.FlagInvalid))
		}
	}
	// The greatest word that fits, and bits above 32 where all words do.
	checkTo(t, impl.F32, impl.I32, 1<<32-1, always(1<<31-1, impl.FlagInvalid))
	checkWhole(t, impl.F32, 1<<32-1, always(nan32, 0))
	checkConvert(t, impl.F32, impl.F64, 1<<32-1, always(nan64, 0))
	checkTo(t, impl.F64, impl.I32, 1<<32+0x3ff0000000000000, wholes(impl.I32, 0, 1, inexact, belowHalf[0]))
	checkWhole(t, impl.F64, 1<<32, eitherOf(0, 0x3ff0000000000000, inexact, belowHalf[0]))
	checkConvert(t, impl.F64, impl.F64, 1<<32, always(1<<32, exact))
	checkConvert(t, impl.F64, impl.F32, 1<<32, between(0, tooLittle, belowHalf[0]))
}

func TestFromIntOfWordsThatDoNotFit(t *testing.T) {
	cases := [4][]uint64{
		impl.I32: {
			1 << 31, 1<<31 + 1, 1<<32 - 1, 1 << 32, 1<<32 + 1, 1 << 62, top - 1, top, top + 1,
			integerWord(1, 1<<32), integerWord(1, 1<<31+1),
		},
		impl.U32: {
			1 << 32, 1<<32 + 1, 1 << 33, 1 << 62, top - 1, top, integerWord(1, 1<<31), all - 1, all,
		},
	}
	for _, f := range allFormats {
		for kind, words := range cases {
			for _, w := range words {
				checkFrom(t, f, kind, w, always(nanOf(f), impl.FlagInvalid))
			}
		}
		// What is next to them fits, and in kinds of 64 places all words do.
		checkFrom(t, f, impl.I32, integerWord(1, 1<<31), always(counted(f, 1, 1, 31), exact))
		for _, w := range edgeWords {
			for _, kind := range []int{impl.I64, impl.U64} {
				if r := impl.FromInt(f, impl.REven, kind, w); isNaN(f, r.Bits) || r.Flags&^inexact != 0 {
					t.Errorf("FromInt(%d, %d, %d, %#x) is %#x", f, impl.REven, kind, w, r)
				}
			}
		}
	}
}

func TestFromIntOfSmallIntegers(t *testing.T) {
	inAllKinds(func(f int, sign int, kind int) {
		checkFrom(t, f, kind, 0, always(0, exact))
		for size := uint64(1); size <= 3000; size++ {
			if size <= farthest(kind, sign) {
				checkFrom(t, f, kind, integerWord(sign, size), always(counted(f, sign, size, 0), exact))
			}
		}
	})
	// The answers themselves, once: 1, -1, -3.
	checkFrom(t, impl.F32, impl.U64, 1, always(0x3f800000, 0))
	checkFrom(t, impl.F64, impl.U32, 1, always(0x3ff0000000000000, 0))
	checkFrom(t, impl.F32, impl.I64, all, always(0xbf800000, 0))
	checkFrom(t, impl.F64, impl.I32, all, always(0xbff0000000000000, 0))
	checkFrom(t, impl.F64, impl.I64, all-2, always(0xc008000000000000, 0))
}

func TestFromIntOfTheEnds(t *testing.T) {
	inAllKinds(func(f int, sign int, kind int) {
		p, places := layoutOf(f).precision, placesOf(kind)
		switch size := farthest(kind, sign); {
		case size == 0:
		case sign == 1:
			checkFrom(t, f, kind, -size, always(counted(f, 1, 1, places), exact))
			below := always(counted(f, 1, size-1, 0), exact)
			if places > p {
				below = between(counted(f, 1, 1<<p-1, places-p), inexact, aboveHalf[1])
			}
			checkFrom(t, f, kind, 1-size, below)
		case places > p:
			checkFrom(t, f, kind, size, between(counted(f, 0, 1<<p-1, places-p), inexact, aboveHalf[0]))
		default:
			checkFrom(t, f, kind, size, always(counted(f, 0, size, 0), exact))
		}
	})
	// The answers themselves, once: 2^31 - 1, 2^32 - 1, 2^63 - 1, 2^64 - 1, -2^63.
	checkFrom(t, impl.F32, impl.I32, 1<<31-1, between(0x4effffff, 16, [5]uint64{1, 1, 0, 1, 0}))
	checkFrom(t, impl.F64, impl.I32, 1<<31-1, always(0x41dfffffffc00000, 0))
	checkFrom(t, impl.F64, impl.U32, 1<<32-1, always(0x41efffffffe00000, 0))
	checkFrom(t, impl.F64, impl.I64, top-1, between(0x43dfffffffffffff, 16, [5]uint64{1, 1, 0, 1, 0}))
	checkFrom(t, impl.F64, impl.U64, all, between(0x43efffffffffffff, 16, [5]uint64{1, 1, 0, 1, 0}))
	checkFrom(t, impl.F64, impl.U64, top, always(0x43e0000000000000, 0))
	checkFrom(t, impl.F64, impl.I64, top, always(0xc3e0000000000000, 0))
}

// checkFromAbove asks for integers from count * 2^drop up to the next multiple.
func checkFromAbove(t *testing.T, f int, sign int, kind int, count uint64, drop int) {
	t.Helper()
	ask := func(more uint64, want inAllModes) {
		t.Helper()
		if size := count<<drop + more; size <= farthest(kind, sign) {
			checkFrom(t, f, kind, integerWord(sign, size), want)
		}
	}
	w := counted(f, sign, count, drop)
	half := uint64(1) << (drop - 1)
	ask(0, always(w, exact))
	ask(half, between(w, inexact, atHalf(sign, count)))
	if drop > 1 {
		ask(1, between(w, inexact, belowHalf[sign]))
		ask(half-1, between(w, inexact, belowHalf[sign]))
		ask(half+1, between(w, inexact, aboveHalf[sign]))
		ask(2*half-1, between(w, inexact, aboveHalf[sign]))
	}
}

func TestFromIntOfMoreDigitsThanTheFormatHas(t *testing.T) {
	inAllKinds(func(f int, sign int, kind int) {
		p := layoutOf(f).precision
		full := uint64(1) << p
		for drop := 1; drop <= placesOf(kind)-p; drop++ {
			for _, count := range []uint64{full / 2, full/2 + 1, full/2 + 2, full/4*3 - 1, full / 4 * 3, full - 2, full - 1} {
				checkFromAbove(t, f, sign, kind, count, drop)
			}
		}
	})
	// The answers themselves, once: halves beside 2^24 and 2^53.
	checkFrom(t, impl.F32, impl.U32, 1<<24+1, between(0x4b800000, 16, [5]uint64{0, 1, 0, 1, 0}))
	checkFrom(t, impl.F32, impl.I32, 1<<24+3, between(0x4b800001, 16, [5]uint64{1, 1, 0, 1, 0}))
	checkFrom(t, impl.F64, impl.U64, 1<<53+1, between(0x4340000000000000, 16, [5]uint64{0, 1, 0, 1, 0}))
	checkFrom(t, impl.F64, impl.I64, integerWord(1, 1<<53+1), between(0xc340000000000000, 16, [5]uint64{0, 1, 0, 0, 1}))
	checkFrom(t, impl.F64, impl.I64, integerWord(1, 1<<53+3), between(0xc340000000000001, 16, [5]uint64{1, 1, 0, 0, 1}))
}

func TestToIntOfNoNumber(t *testing.T) {
	inAllKinds(func(f int, sign int, kind int) {
		checkTo(t, f, kind, wordOf(f, sign, 0, 0), always(0, exact))
		checkTo(t, f, kind, infinityOf(f, sign), beyond(kind, sign))
		for _, w := range edgeNaNs(f) {
			checkTo(t, f, kind, w, beyond(kind, 0))
		}
	})
	// The answers themselves, once: minus infinity, and a NaN with sign 1.
	for kind, want := range [4]uint64{impl.I32: 0xffffffff80000000, impl.I64: 0x8000000000000000} {
		checkTo(t, impl.F32, kind, 0xff800000, always(want, 1))
		checkTo(t, impl.F64, kind, 0xfff0000000000000, always(want, 1))
	}
	for kind, want := range [4]uint64{impl.I32: 1<<31 - 1, impl.I64: top - 1, impl.U32: 1<<32 - 1, impl.U64: all} {
		checkTo(t, impl.F32, kind, 0xffc00000, always(want, 1))
		checkTo(t, impl.F64, kind, 0xfff0000000000001, always(want, 1))
	}
}

// wholesToAsk are whole numbers of which the format still has the quarters above: even and odd, and at the ends of kinds.
func wholesToAsk(f int) []uint64 {
	p := layoutOf(f).precision
	last := uint64(1)<<(p-2) - 1
	out := []uint64{0, 1, 2, 3, 4, 5, 6, 7, 8, 99, 100, 1023, 1024, last - 1, last}
	for _, n := range []uint64{1 << 31, 1 << 32} {
		if n < last {
			out = append(out, n-3, n-2, n-1, n, n+1, n+2)
		}
	}
	return out
}

// What stands between two whole numbers goes to one of them before the kind is asked, so that just outside of its range
// there may be integers of it, and just inside there may be none.
func TestToIntBetweenWholeNumbers(t *testing.T) {
	inAllKinds(func(f int, sign int, kind int) {
		for _, n := range wholesToAsk(f) {
			checkTo(t, f, kind, counted(f, sign, 4*n, -2), wholes(kind, sign, n, exact, [5]uint64{}))
			checkTo(t, f, kind, counted(f, sign, 4*n+1, -2), wholes(kind, sign, n, inexact, belowHalf[sign]))
			checkTo(t, f, kind, counted(f, sign, 4*n+2, -2), wholes(kind, sign, n, inexact, atHalf(sign, n)))
			checkTo(t, f, kind, counted(f, sign, 4*n+3, -2), wholes(kind, sign, n, inexact, aboveHalf[sign]))
			half := counted(f, sign, 2*n+1, -1)
			checkTo(t, f, kind, half-1, wholes(kind, sign, n, inexact, belowHalf[sign]))
			checkTo(t, f, kind, half+1, wholes(kind, sign, n, inexact, aboveHalf[sign]))
			checkTo(t, f, kind, counted(f, sign, n+1, 0)-1, wholes(kind, sign, n, inexact, aboveHalf[sign]))
		}
		for _, w := range []uint64{1, 2, 1<<(layoutOf(f).precision-1) - 1, 1 << (layoutOf(f).precision - 1), counted(f, 0, 1, -70)} {
			checkTo(t, f, kind, w|wordOf(f, sign, 0, 0), wholes(kind, sign, 0, inexact, belowHalf[sign]))
		}
	})
}

func TestToIntAtTheEndsByHand(t *testing.T) {
	const least = all - 1<<31 + 1
	cases := []struct {
		kind  int
		a     uint64
		want  uint64
		flags [5]int
	}{
		// 2^31 - 1/2, 2^31 - 1/4, 2^31.
		{impl.I32, 0x41dfffffffe00000, 1<<31 - 1, [5]int{1, 1, 16, 1, 16}},
		{impl.I32, 0x41dffffffff00000, 1<<31 - 1, [5]int{1, 1, 16, 1, 16}},
		{impl.I32, 0x41e0000000000000, 1<<31 - 1, [5]int{1, 1, 1, 1, 1}},
		// -2^31, -2^31 - 1/4, -2^31 - 1/2, -2^31 - 1.
		{impl.I32, 0xc1e0000000000000, least, [5]int{}},
		{impl.I32, 0xc1e0000000080000, least, [5]int{16, 16, 16, 16, 1}},
		{impl.I32, 0xc1e0000000100000, least, [5]int{16, 1, 16, 16, 1}},
		{impl.I32, 0xc1e0000000200000, least, [5]int{1, 1, 1, 1, 1}},
		// 2^32 - 1, 2^32 - 1/2, 2^32.
		{impl.U32, 0x41efffffffe00000, 1<<32 - 1, [5]int{}},
		{impl.U32, 0x41effffffff00000, 1<<32 - 1, [5]int{1, 1, 16, 1, 16}},
		{impl.U32, 0x41f0000000000000, 1<<32 - 1, [5]int{1, 1, 1, 1, 1}},
		// -1/4, -1/2, -3/4, -1.
		{impl.U32, 0xbfd0000000000000, 0, [5]int{16, 16, 16, 16, 1}},
		{impl.U64, 0xbfe0000000000000, 0, [5]int{16, 1, 16, 16, 1}},
		{impl.U64, 0xbfe8000000000000, 0, [5]int{1, 1, 16, 16, 1}},
		{impl.U32, 0xbff0000000000000, 0, [5]int{1, 1, 1, 1, 1}},
		{impl.U64, 0xbff0000000000000, 0, [5]int{1, 1, 1, 1, 1}},
		{impl.I64, 0xbff0000000000000, all, [5]int{}},
	}
	for _, c := range cases {
		want := always(c.want, exact)
		for mode, flags := range c.flags {
			want[mode].Flags = flags
		}
		checkTo(t, impl.F64, c.kind, c.a, want)
	}
	// 2^31 - 3/2.
	checkTo(t, impl.F64, impl.I32, 0x41dfffffffa00000, between(1<<31-2, 16, [5]uint64{0, 1, 0, 1, 0}))
}

// So far up every number is whole.
func TestToIntOfGreatNumbers(t *testing.T) {
	inAllKinds(func(f int, sign int, kind int) {
		p := layoutOf(f).precision
		for n := p; n < 64; n++ {
			for _, count := range []uint64{1 << (p - 1), 1<<(p-1) + 1, 1<<p - 2, 1<<p - 1} {
				size := count << (n - p + 1)
				checkTo(t, f, kind, counted(f, sign, count, n-p+1), wholes(kind, sign, size, exact, [5]uint64{}))
			}
		}
		for _, n := range []int{64, 65, 66, 95, 96, 97, 116, 117, 118, 127, layoutOf(f).emax} {
			w := counted(f, sign, 1, n)
			for _, more := range []uint64{0, 1, 1<<(p-1) - 1} {
				checkTo(t, f, kind, w+more, beyond(kind, sign))
			}
		}
	})
	// The answers themselves, once: the numbers next to 2^63, -2^63 and 2^64.
	checkTo(t, impl.F64, impl.I64, 0x43dfffffffffffff, always(0x7ffffffffffffc00, 0))
	checkTo(t, impl.F64, impl.I64, 0x43e0000000000000, always(0x7fffffffffffffff, 1))
	checkTo(t, impl.F64, impl.I64, 0xc3e0000000000000, always(0x8000000000000000, 0))
	checkTo(t, impl.F64, impl.I64, 0xc3e0000000000001, always(0x8000000000000000, 1))
	checkTo(t, impl.F64, impl.U64, 0x43efffffffffffff, always(0xfffffffffffff800, 0))
	checkTo(t, impl.F64, impl.U64, 0x43f0000000000000, always(all, 1))
	checkTo(t, impl.F32, impl.U64, 0x5f7fffff, always(0xffffff0000000000, 0))
	checkTo(t, impl.F32, impl.I32, 0x4effffff, always(0x7fffff80, 0))
	checkTo(t, impl.F32, impl.I32, 0xcf000001, always(0xffffffff80000000, 1))
}

func TestConvertOfNoNumber(t *testing.T) {
	for _, from := range allFormats {
		for _, to := range allFormats {
			for sign := range 2 {
				checkConvert(t, from, to, wordOf(from, sign, 0, 0), always(wordOf(to, sign, 0, 0), exact))
				checkConvert(t, from, to, infinityOf(from, sign), always(infinityOf(to, sign), exact))
			}
			for _, w := range edgeNaNs(from) {
				flags := 0
				if isSignaling(from, w) {
					flags = impl.FlagInvalid
				}
				checkConvert(t, from, to, w, always(nanOf(to), flags))
			}
		}
	}
	// The answers themselves, once.
	checkConvert(t, impl.F32, impl.F64, 0x80000000, always(0x8000000000000000, 0))
	checkConvert(t, impl.F64, impl.F32, 0xfff0000000000000, always(0xff800000, 0))
	checkConvert(t, impl.F64, impl.F32, 0xfff0000020000000, always(0x7fc00000, 1))
	checkConvert(t, impl.F32, impl.F32, 0xffc12345, always(0x7fc00000, 0))
}

func TestConvertToTheSameFormat(t *testing.T) {
	for _, f := range allFormats {
		for _, w := range someNumbers(f, 5000) {
			checkConvert(t, f, f, w, always(w, exact))
		}
	}
}

func TestConvertToTheLongerFormat(t *testing.T) {
	for _, w := range someNumbers(impl.F32, 5000) {
		want := math.Float64bits(float64(math.Float32frombits(uint32(w))))
		checkConvert(t, impl.F32, impl.F64, w, always(want, exact))
		checkConvert(t, impl.F64, impl.F32, want, always(w, exact))
	}
	// The answers themselves, once: 1, the least number, the greatest with exponent bits 0, the greatest.
	checkConvert(t, impl.F32, impl.F64, 0x3f800000, always(0x3ff0000000000000, 0))
	checkConvert(t, impl.F32, impl.F64, 1, always(0x36a0000000000000, 0))
	checkConvert(t, impl.F32, impl.F64, 0x807fffff, always(0xb80fffffc0000000, 0))
	checkConvert(t, impl.F32, impl.F64, 0x7f7fffff, always(0x47efffffe0000000, 0))
}

// longer is the word of the number count * 2^exp in F64.
func longer(sign int, count uint64, exp int) uint64 {
	return counted(impl.F64, sign, count, exp)
}

// The numbers of F64 between two neighbours of F32 count 2^29 steps.
func TestConvertBetweenNeighbours(t *testing.T) {
	const step = uint64(1) << 29
	for sign := range 2 {
		for n := -126; n <= 127; n++ {
			for _, count := range []uint64{1 << 23, 1<<23 + 1, 1<<23 + 2, 1<<24 - 2, 1<<24 - 1} {
				w := counted(impl.F32, sign, count, n-23)
				a := longer(sign, count, n-23)
				answers := func(greater [5]uint64) inAllModes {
					if w == infinityOf(impl.F32, sign)-1 {
						return atGreatest(impl.F32, sign, greater)
					}
					return between(w, inexact, greater)
				}
				checkConvert(t, impl.F64, impl.F32, a, always(w, exact))
				checkConvert(t, impl.F64, impl.F32, a+1, answers(belowHalf[sign]))
				checkConvert(t, impl.F64, impl.F32, a+step/2-1, answers(belowHalf[sign]))
				checkConvert(t, impl.F64, impl.F32, a+step/2, answers(atHalf(sign, count)))
				checkConvert(t, impl.F64, impl.F32, a+step/2+1, answers(aboveHalf[sign]))
				checkConvert(t, impl.F64, impl.F32, a+step-1, answers(aboveHalf[sign]))
			}
		}
	}
	// The answers themselves, once: a third, and a half above 1.
	checkConvert(t, impl.F64, impl.F32, 0x3fd5555555555555, between(0x3eaaaaaa, 16, [5]uint64{1, 1, 0, 1, 0}))
	checkConvert(t, impl.F64, impl.F32, 0xbff0000010000000, between(0xbf800000, 16, [5]uint64{0, 1, 0, 0, 1}))
}

func TestConvertThatOverflows(t *testing.T) {
	for sign := range 2 {
		over := overflows(impl.F32, sign)
		for n := 128; n <= 1023; n++ {
			checkConvert(t, impl.F64, impl.F32, longer(sign, 1, n), over)
			checkConvert(t, impl.F64, impl.F32, longer(sign, 1<<53-1, n-52), over)
		}
		checkConvert(t, impl.F64, impl.F32, longer(sign, 1, 128)-1, atGreatest(impl.F32, sign, aboveHalf[sign]))
	}
	// The answers themselves, once: the greatest of F64, and the half between the greatest of F32 and 2^128.
	checkConvert(t, impl.F64, impl.F32, 0x7fefffffffffffff, between(0x7f7fffff, 20, [5]uint64{1, 1, 0, 1, 0}))
	checkConvert(t, impl.F64, impl.F32, 0xffefffffffffffff, between(0xff7fffff, 20, [5]uint64{1, 1, 0, 0, 1}))
	checkConvert(t, impl.F64, impl.F32, 0x47effffff0000000, atGreatest(impl.F32, 0, [5]uint64{1, 1, 0, 1, 0}))
	checkConvert(t, impl.F64, impl.F32, 0xc7efffffefffffff, atGreatest(impl.F32, 1, [5]uint64{0, 0, 0, 0, 1}))
}

func TestConvertThatIsTiny(t *testing.T) {
	const last = -149
	for sign := range 2 {
		minus := wordOf(impl.F32, sign, 0, 0)
		for _, count := range []uint64{0, 1, 2, 3, 100, 101, 1<<22 - 1, 1 << 22, 1<<23 - 3, 1<<23 - 2} {
			w := minus | count
			checkConvert(t, impl.F64, impl.F32, longer(sign, 4*count, last-2), always(w, exact))
			checkConvert(t, impl.F64, impl.F32, longer(sign, 4*count+1, last-2), between(w, tooLittle, belowHalf[sign]))
			checkConvert(t, impl.F64, impl.F32, longer(sign, 4*count+3, last-2), between(w, tooLittle, aboveHalf[sign]))
			half := longer(sign, 2*count+1, last-1)
			checkConvert(t, impl.F64, impl.F32, half-1, between(w, tooLittle, belowHalf[sign]))
			checkConvert(t, impl.F64, impl.F32, half, between(w, tooLittle, atHalf(sign, count)))
			checkConvert(t, impl.F64, impl.F32, half+1, between(w, tooLittle, aboveHalf[sign]))
		}
		// Far below, also with exponent bits 0 in the longer format: zero, or the least number.
		for n := -1074; n < last-1; n++ {
			checkConvert(t, impl.F64, impl.F32, longer(sign, 1, n), between(minus, tooLittle, belowHalf[sign]))
		}
		for _, w := range []uint64{1, 2, 3, 1<<51 + 1, 1<<52 - 1, 1 << 52, 1<<52 + 1} {
			checkConvert(t, impl.F64, impl.F32, w|wordOf(impl.F64, sign, 0, 0), between(minus, tooLittle, belowHalf[sign]))
		}
	}
	// The answers themselves, once: the least of F64, and half of the least of F32.
	checkConvert(t, impl.F64, impl.F32, 0x8000000000000001, between(0x80000000, 24, [5]uint64{0, 0, 0, 0, 1}))
	checkConvert(t, impl.F64, impl.F32, 0x3690000000000000, between(0, 24, [5]uint64{0, 1, 0, 1, 0}))
}

// Just below 2^emin the step of F32 is two steps of a format without a least exponent: what is rounded up to 2^emin is
// tiny all the same, if it would not come so far with those.
func TestConvertRoundedUpToTheLeastExponent(t *testing.T) {
	for sign := range 2 {
		w := wordOf(impl.F32, sign, 0, 1<<23-1)
		at := func(a uint64, greater [5]uint64, reaching [5]uint64) {
			t.Helper()
			want := between(w, tooLittle, greater)
			for mode, up := range reaching {
				if up == 1 {
					want[mode].Flags = inexact
				}
			}
			checkConvert(t, impl.F64, impl.F32, a, want)
		}
		// Eighths of the step above w.
		eighth := func(n uint64) uint64 { return longer(sign, 1<<26-8+n, -152) }
		checkConvert(t, impl.F64, impl.F32, eighth(0), always(w, exact))
		at(eighth(0)+1, belowHalf[sign], [5]uint64{})
		at(eighth(3), belowHalf[sign], [5]uint64{})
		at(eighth(4)-1, belowHalf[sign], [5]uint64{})
		at(eighth(4), halfFromOdd[sign], [5]uint64{})
		at(eighth(4)+1, aboveHalf[sign], belowHalf[sign])
		at(eighth(5), aboveHalf[sign], belowHalf[sign])
		at(eighth(6)-1, aboveHalf[sign], belowHalf[sign])
		at(eighth(6), aboveHalf[sign], halfFromOdd[sign])
		at(eighth(6)+1, aboveHalf[sign], aboveHalf[sign])
		at(eighth(8)-1, aboveHalf[sign], aboveHalf[sign])
		checkConvert(t, impl.F64, impl.F32, eighth(8), always(w+1, exact))
		checkConvert(t, impl.F64, impl.F32, eighth(8)+1, between(w+1, inexact, belowHalf[sign]))
	}
}

func TestRoundIntOfNoNumber(t *testing.T) {
	for _, f := range allFormats {
		for sign := range 2 {
			checkWhole(t, f, wordOf(f, sign, 0, 0), always(wordOf(f, sign, 0, 0), exact))
			checkWhole(t, f, infinityOf(f, sign), always(infinityOf(f, sign), exact))
		}
		for _, w := range edgeNaNs(f) {
			flags := 0
			if isSignaling(f, w) {
				flags = impl.FlagInvalid
			}
			checkWhole(t, f, w, always(nanOf(f), flags))
		}
	}
}

func TestRoundIntBetweenWholeNumbers(t *testing.T) {
	inBoth(func(f int, sign int) {
		for _, n := range wholesToAsk(f) {
			checkWhole(t, f, counted(f, sign, n, 0), wordsOfWholes(f, sign, n, exact, [5]uint64{}))
			checkWhole(t, f, counted(f, sign, 4*n+1, -2), wordsOfWholes(f, sign, n, inexact, belowHalf[sign]))
			checkWhole(t, f, counted(f, sign, 4*n+2, -2), wordsOfWholes(f, sign, n, inexact, atHalf(sign, n)))
			checkWhole(t, f, counted(f, sign, 4*n+3, -2), wordsOfWholes(f, sign, n, inexact, aboveHalf[sign]))
			half := counted(f, sign, 2*n+1, -1)
			checkWhole(t, f, half-1, wordsOfWholes(f, sign, n, inexact, belowHalf[sign]))
			checkWhole(t, f, half+1, wordsOfWholes(f, sign, n, inexact, aboveHalf[sign]))
			checkWhole(t, f, counted(f, sign, n+1, 0)-1, wordsOfWholes(f, sign, n, inexact, aboveHalf[sign]))
		}
		for _, w := range []uint64{1, 2, 1<<(layoutOf(f).precision-1) - 1, 1 << (layoutOf(f).precision - 1), counted(f, 0, 1, -70)} {
			checkWhole(t, f, w|wordOf(f, sign, 0, 0), wordsOfWholes(f, sign, 0, inexact, belowHalf[sign]))
		}
	})
	// The answers themselves, once: 1/2, -1/2, 3/2, -5/2.
	checkWhole(t, impl.F32, 0x3f000000, eitherOf(0, 0x3f800000, 16, [5]uint64{0, 1, 0, 1, 0}))
	checkWhole(t, impl.F32, 0xbf000000, eitherOf(0x80000000, 0xbf800000, 16, [5]uint64{0, 1, 0, 0, 1}))
	checkWhole(t, impl.F64, 0x3ff8000000000000, eitherOf(0x3ff0000000000000, 0x4000000000000000, 16, [5]uint64{1, 1, 0, 1, 0}))
	checkWhole(t, impl.F64, 0xc004000000000000, eitherOf(0xc000000000000000, 0xc008000000000000, 16, [5]uint64{0, 1, 0, 0, 1}))
}

func TestRoundIntOfGreatNumbers(t *testing.T) {
	inBoth(func(f int, sign int) {
		l := layoutOf(f)
		for n := l.precision - 1; n <= l.emax; n++ {
			w := counted(f, sign, 1, n)
			for _, more := range []uint64{0, 1, 2, 1<<(l.precision-1) - 1} {
				checkWhole(t, f, w+more, always(w+more, exact))
			}
		}
		checkWhole(t, f, infinityOf(f, sign)-1, always(infinityOf(f, sign)-1, exact))
		// The greatest numbers with a half: the one above is the first where the step is 1.
		odd := uint64(1)<<l.precision - 1
		checkWhole(t, f, counted(f, sign, odd, -1), wordsOfWholes(f, sign, odd/2, inexact, halfFromOdd[sign]))
		checkWhole(t, f, counted(f, sign, odd-2, -1), wordsOfWholes(f, sign, odd/2-1, inexact, halfFromEven[sign]))
	})
}

// integers are words for integers of a kind: its ends, small ones and any.
func (m *mixed) integers(kind int, n int) []uint64 {
	least := integerWord(1, farthest(kind, 1))
	greatest := farthest(kind, 0)
	out := []uint64{0, 1, 2, least, least + 1, greatest - 1, greatest}
	for range n {
		size := m.word() >> (64 - placesOf(kind))
		if size&1 == 0 && farthest(kind, 1) != 0 {
			size = -size
		}
		out = append(out, size)
	}
	return out
}

// nearWhole is a number about so great as integers are.
func (m *mixed) nearWhole(f int) uint64 {
	l := layoutOf(f)
	_, _, fraction := fieldsOf(f, m.number(f))
	return wordOf(f, int(m.next()%2), uint64(l.emax)+m.next()%70-3, fraction)
}

func TestIntegersByWords(t *testing.T) {
	for _, f := range allFormats {
		m := mixed(40)
		for _, kind := range allKinds {
			for _, w := range append(m.integers(kind, 2000), edgeWords...) {
				for _, mode := range allModes {
					want := fromIntByWords(f, mode, kind, w)
					if got := impl.FromInt(f, mode, kind, w); got != want {
						t.Errorf("FromInt(%d, %d, %d, %#x) is %#x, not %#x", f, mode, kind, w, got, want)
					}
				}
			}
			words := append(someOperands(f), edgeNumbers(f)...)
			for range 2000 {
				words = append(words, m.nearWhole(f), m.nearOne(f))
			}
			for _, a := range words {
				for _, mode := range allModes {
					want := toIntByWords(f, mode, kind, a)
					if got := impl.ToInt(f, mode, kind, a); got != want {
						t.Errorf("ToInt(%d, %d, %d, %#x) is %#x, not %#x", f, mode, kind, a, got, want)
					}
				}
			}
		}
	}
}

func TestConvertByWords(t *testing.T) {
	for _, from := range allFormats {
		words := append(someOperands(from), edgeNumbers(from)...)
		m := mixed(41)
		for range 1000 {
			words = append(words, m.number(from), m.nearOne(from))
			// About as small, and as great, as F32 goes.
			_, _, fraction := fieldsOf(from, m.number(from))
			sign, bias := int(m.next()%2), uint64(layoutOf(from).emax)
			words = append(words, wordOf(from, sign, (bias-127+m.next()%28)-min(bias-127, 26), fraction))
			words = append(words, wordOf(from, sign, bias+126+m.next()%2, fraction))
		}
		for _, to := range allFormats {
			for _, a := range words {
				for _, mode := range allModes {
					want := convertByWords(from, to, mode, a)
					if got := impl.Convert(from, to, mode, a); got != want {
						t.Errorf("Convert(%d, %d, %d, %#x) is %#x, not %#x", from, to, mode, a, got, want)
					}
				}
			}
		}
	}
}

func TestRoundIntByWords(t *testing.T) {
	for _, f := range allFormats {
		words := append(someOperands(f), edgeNumbers(f)...)
		m := mixed(42)
		for range 2500 {
			words = append(words, m.number(f), m.nearOne(f), m.nearWhole(f))
		}
		for _, a := range words {
			for i, mode := range append(allModes, allModes...) {
				exact := i < len(allModes)
				want := roundIntByWords(f, mode, a, exact)
				if got := impl.RoundInt(f, mode, a, exact); got != want {
					t.Errorf("RoundInt(%d, %d, %#x, %v) is %#x, not %#x", f, mode, a, exact, got, want)
				}
			}
		}
	}
}

// The library rounds to whole numbers in all five ways, and conversions of the machine round to even.
func TestConversionsByTheLibrary(t *testing.T) {
	ways := [5]func(float64) float64{
		impl.REven: math.RoundToEven, impl.RAway: math.Round, impl.RZero: math.Trunc, impl.RUp: math.Ceil, impl.RDown: math.Floor,
	}
	m := mixed(43)
	for range 200000 {
		for _, a := range []uint64{m.number(impl.F64), m.nearWhole(impl.F64)} {
			x := math.Float64frombits(a)
			for mode, way := range ways {
				checkBits(t, "RoundInt", impl.F64, []uint64{a}, impl.RoundInt(impl.F64, mode, a, true).Bits, math.Float64bits(way(x)))
			}
			shorter := uint64(math.Float32bits(float32(x)))
			checkBits(t, "Convert", impl.F32, []uint64{a}, impl.Convert(impl.F64, impl.F32, impl.REven, a).Bits, shorter)
		}
		w := m.word()
		from := func(f int, kind int, w uint64, want uint64) {
			t.Helper()
			checkBits(t, "FromInt", f, []uint64{w}, impl.FromInt(f, impl.REven, kind, w).Bits, want)
		}
		from(impl.F64, impl.U64, w, math.Float64bits(float64(w)))
		from(impl.F64, impl.I64, -w, math.Float64bits(float64(-int64(w))))
		from(impl.F32, impl.U64, w, uint64(math.Float32bits(float32(w))))
		from(impl.F32, impl.I64, -w, uint64(math.Float32bits(float32(-int64(w)))))
	}
}

func TestToIntOfFromIntIsTheInteger(t *testing.T) {
	for _, f := range allFormats {
		m := mixed(44)
		for _, kind := range allKinds {
			asked := 0
			for _, w := range m.integers(kind, 20000) {
				for _, mode := range allModes {
					r := impl.FromInt(f, mode, kind, w)
					if r.Flags == inexact {
						continue
					}
					asked++
					if r.Flags != exact {
						t.Errorf("FromInt(%d, %d, %d, %#x) is %#x", f, mode, kind, w, r)
					}
					checkTo(t, f, kind, r.Bits, always(w, exact))
				}
			}
			if asked < 30000 {
				t.Errorf("format %d, kind %d: only %d integers are exact", f, kind, asked)
			}
		}
	}
}

func TestConvertForthAndBackIsTheWord(t *testing.T) {
	for w := uint64(0); w < 1<<32; w += 16381 {
		for _, mode := range allModes {
			forth := impl.Convert(impl.F32, impl.F64, mode, w)
			back := impl.Convert(impl.F64, impl.F32, mode, forth.Bits)
			want := impl.Result{Bits: w}
			if isNaN(impl.F32, w) {
				want.Bits = nan32
			}
			if back != want || forth.Flags&^impl.FlagInvalid != 0 {
				t.Errorf("Convert of %#x in way %d is %#x forth and %#x back", w, mode, forth, back)
			}
		}
	}
}

// wholesToCompare are numbers of all exponents, and many about so great as integers are.
func wholesToCompare(f int) []uint64 {
	words := someNumbers(f, 5000)
	m := mixed(45)
	for range 5000 {
		words = append(words, m.nearWhole(f), m.nearOne(f))
	}
	return words
}

func TestRoundIntIsWholeAndStays(t *testing.T) {
	for _, f := range allFormats {
		for _, a := range wholesToCompare(f) {
			for _, mode := range allModes {
				r := impl.RoundInt(f, mode, a, true)
				if r != (impl.Result{Bits: r.Bits, Flags: r.Flags & inexact}) || !isNumber(f, r.Bits) || (r.Bits == a) != (r.Flags == exact) {
					t.Errorf("RoundInt(%d, %d, %#x, true) is %#x", f, mode, a, r)
				}
				checkWhole(t, f, r.Bits, always(r.Bits, exact))
				if quiet := impl.RoundInt(f, mode, a, false); quiet != (impl.Result{Bits: r.Bits}) {
					t.Errorf("RoundInt(%d, %d, %#x, false) is %#x, and with the flag %#x", f, mode, a, quiet, r)
				}
			}
		}
		for _, a := range edgeNumbers(f) {
			for _, mode := range allModes {
				if r := impl.RoundInt(f, mode, a, true); !valueOf(f, r.Bits).IsInt() {
					t.Errorf("RoundInt(%d, %d, %#x, true) is %#x, no whole number", f, mode, a, r)
				}
			}
		}
	}
}

func TestToIntAndRoundIntSayTheSame(t *testing.T) {
	for _, f := range allFormats {
		for _, kind := range allKinds {
			inside := 0
			for _, a := range wholesToCompare(f) {
				for _, mode := range allModes {
					r := impl.RoundInt(f, mode, a, true)
					n := new(big.Int)
					if impl.Unpack(f, r.Bits).Exp < 64 {
						n = valueOf(f, r.Bits).Num()
					} else {
						n.Lsh(big.NewInt(1), 64)
					}
					if !isOfKind(kind, n) {
						continue
					}
					inside++
					want := impl.Result{Bits: wordOfInteger(n), Flags: r.Flags}
					if got := impl.ToInt(f, mode, kind, a); got != want {
						t.Errorf("ToInt(%d, %d, %d, %#x) is %#x, and RoundInt says %#x", f, mode, kind, a, got, want)
					}
				}
			}
			if inside < 20000 {
				t.Errorf("format %d, kind %d: only %d numbers are of the kind", f, kind, inside)
			}
		}
	}
}
