package tests

import (
	"cmp"
	"slices"
	"testing"

	"loop.example/s01330/impl"
)

func checkOrder(t *testing.T, f int, a uint64, b uint64, signaling bool, order int, flags int) {
	t.Helper()
	if o, fs := impl.Compare(f, a, b, signaling); o != order || fs != flags {
		t.Errorf("Compare(%d, %#x, %#x, %v) is %d and %d, not %d and %d", f, a, b, signaling, o, fs, order, flags)
	}
}

func checkExtremes(t *testing.T, f int, a uint64, b uint64, least impl.Result, greatest impl.Result) {
	t.Helper()
	if got := impl.Minimum(f, a, b); got != least {
		t.Errorf("Minimum(%d, %#x, %#x) is %#x, not %#x", f, a, b, got, least)
	}
	if got := impl.Maximum(f, a, b); got != greatest {
		t.Errorf("Maximum(%d, %#x, %#x) is %#x, not %#x", f, a, b, got, greatest)
	}
}

// checkRefused asks all comparisons for what is not valid.
func checkRefused(t *testing.T, f int, a uint64, b uint64, want impl.Result) {
	t.Helper()
	checkOrder(t, f, a, b, false, 2, impl.FlagInvalid)
	checkOrder(t, f, a, b, true, 2, impl.FlagInvalid)
	checkExtremes(t, f, a, b, want, want)
}

func TestComparisonsOfNoFormat(t *testing.T) {
	for _, f := range noFormats {
		for _, a := range wordsOfAnyUse {
			for _, b := range wordsOfAnyUse {
				checkRefused(t, f, a, b, invalid(impl.F64))
			}
		}
	}
}

func TestComparisonsOfWordsThatDoNotFit(t *testing.T) {
	fitting := []uint64{0, 0x80000000, 1, 0x3f800000, 0x7f800000, 0xff800000, nan32, 0x7f800001, 0xffc00000}
	for _, w := range wordsAbove32 {
		for _, v := range append(fitting, w) {
			checkRefused(t, impl.F32, w, v, invalid(impl.F32))
			checkRefused(t, impl.F32, v, w, invalid(impl.F32))
		}
	}
	// The greatest word that fits is a quiet NaN, and in F64 all words do.
	checkOrder(t, impl.F32, 1<<32-1, 0, false, 2, 0)
	checkOrder(t, impl.F64, 1<<32, 1<<32-1, false, 1, 0)
	checkExtremes(t, impl.F64, 1<<32, 1<<32-1, impl.Result{Bits: 1<<32 - 1}, impl.Result{Bits: 1 << 32})
}

// checkBesideNaN asks for two words of which one at least is a NaN.
func checkBesideNaN(t *testing.T, f int, a uint64, b uint64) {
	t.Helper()
	want := impl.Result{Bits: nanOf(f)}
	if isSignaling(f, a) || isSignaling(f, b) {
		want.Flags = impl.FlagInvalid
	}
	checkOrder(t, f, a, b, false, 2, want.Flags)
	checkOrder(t, f, a, b, true, 2, impl.FlagInvalid)
	checkExtremes(t, f, a, b, want, want)
}

func TestComparisonsOfNaNs(t *testing.T) {
	for _, f := range allFormats {
		others := append(edgeNaNs(f), ladder(f)...)
		for _, w := range edgeNaNs(f) {
			for _, v := range others {
				checkBesideNaN(t, f, w, v)
				checkBesideNaN(t, f, v, w)
			}
		}
	}
	// The answers themselves, once.
	checkOrder(t, impl.F32, 0x3f800000, 0x7fc00000, false, 2, 0)
	checkOrder(t, impl.F32, 0xffc00000, 0x3f800000, true, 2, 1)
	checkOrder(t, impl.F64, 0x7ff0000000000001, 0, false, 2, 1)
	checkExtremes(t, impl.F32, 0xff800000, 0xffc00000, impl.Result{Bits: 0x7fc00000}, impl.Result{Bits: 0x7fc00000})
}

// ladder are words in their order, from minus infinity on: the zero with sign 1 just below the one with sign 0.
func ladder(f int) []uint64 {
	l := layoutOf(f)
	normal := uint64(1) << (l.precision - 1)
	one := wordOf(f, 0, uint64(l.emax), 0)
	rising := []uint64{
		0, 1, 2, 3, normal/2 - 1, normal / 2, normal - 2, normal - 1, normal, normal + 1, 2*normal - 1, 2 * normal, 2*normal + 1,
		one - normal, one - 2, one - 1, one, one + 1, one + 2, one + normal/2, one + normal - 1, one + normal, one + normal + 1,
		infinityOf(f, 0) - normal, infinityOf(f, 0) - 2, infinityOf(f, 0) - 1, infinityOf(f, 0),
	}
	var out []uint64
	for _, w := range slices.Backward(rising) {
		out = append(out, turned(f, w))
	}
	return append(out, rising...)
}

func TestComparisonsOfWordsInOrder(t *testing.T) {
	for _, f := range allFormats {
		words := ladder(f)
		for i, a := range words {
			for j, b := range words {
				order := cmp.Compare(i, j)
				if isZero(f, a) && isZero(f, b) {
					order = 0
				}
				checkOrder(t, f, a, b, false, order, 0)
				checkOrder(t, f, a, b, true, order, 0)
				checkExtremes(t, f, a, b, impl.Result{Bits: words[min(i, j)]}, impl.Result{Bits: words[max(i, j)]})
			}
		}
	}
}

func TestComparisonsByHand(t *testing.T) {
	const minus, infinity = 0x80000000, 0x7f800000
	cases := []struct {
		a, b            uint64
		order           int
		least, greatest uint64
	}{
		{0, 0, 0, 0, 0},
		{0, minus, 0, minus, 0},
		{minus, 0, 0, minus, 0},
		{minus, minus, 0, minus, minus},
		{0x3f800000, 0x40000000, -1, 0x3f800000, 0x40000000},
		{0x3f800000, 0xc0000000, 1, 0xc0000000, 0x3f800000},
		{0xc0000000, 0xbf800000, -1, 0xc0000000, 0xbf800000},
		{0x3f800000, 0x3f800001, -1, 0x3f800000, 0x3f800001},
		{0xbf800000, 0xbf800001, 1, 0xbf800001, 0xbf800000},
		{1, minus, 1, minus, 1},
		{minus | 1, 0, -1, minus | 1, 0},
		{0x7fffff, 0x800000, -1, 0x7fffff, 0x800000},
		{infinity, infinity, 0, infinity, infinity},
		{infinity, minus | infinity, 1, minus | infinity, infinity},
		{minus | infinity, 0xff7fffff, -1, minus | infinity, 0xff7fffff},
		{0x7f7fffff, infinity, -1, 0x7f7fffff, infinity},
	}
	for _, c := range cases {
		checkOrder(t, impl.F32, c.a, c.b, false, c.order, 0)
		checkOrder(t, impl.F32, c.a, c.b, true, c.order, 0)
		checkExtremes(t, impl.F32, c.a, c.b, impl.Result{Bits: c.least}, impl.Result{Bits: c.greatest})
	}
}

// comparedPairs asks for all pairs of some operands, and for numbers far from each other, next to each other and equal.
func comparedPairs(f int, n int, ask func(a uint64, b uint64)) {
	words := append(someOperands(f), edgeNumbers(f)...)
	for _, a := range words {
		for _, b := range words {
			ask(a, b)
		}
	}
	m := mixed(50)
	for range n {
		a := m.number(f)
		ask(a, m.number(f))
		ask(a, m.beside(f, a))
		ask(a, a^m.next()%4)
		ask(a, impl.NextUp(f, a))
		ask(a, turned(f, a))
		ask(m.nearOne(f), m.nearOne(f))
	}
}

func TestComparisonsByWords(t *testing.T) {
	for _, f := range allFormats {
		comparedPairs(f, 2000, func(a uint64, b uint64) {
			for _, signaling := range []bool{false, true} {
				order, flags := compareByWords(f, a, b, signaling)
				checkOrder(t, f, a, b, signaling, order, flags)
			}
			least, greatest := extremesByWords(f, a, b)
			checkExtremes(t, f, a, b, least, greatest)
		})
	}
}

func TestCompareChangesItsSignWithTheOperands(t *testing.T) {
	for _, f := range allFormats {
		comparedPairs(f, 30000, func(a uint64, b uint64) {
			order, flags := impl.Compare(f, a, b, false)
			if order != 2 {
				order = -order
			}
			checkOrder(t, f, b, a, false, order, flags)
			if flags == 0 && order != 2 {
				checkOrder(t, f, turned(f, a), turned(f, b), true, order, 0)
			}
		})
	}
}

func TestCompareIsAnOrder(t *testing.T) {
	for _, f := range allFormats {
		words := append(someNumbers(f, 3000), infinityOf(f, 0), infinityOf(f, 1))
		slices.SortFunc(words, func(a uint64, b uint64) int {
			order, _ := impl.Compare(f, a, b, false)
			return order
		})
		// Between two that stand next to each other, and between some that stand far apart.
		for i, a := range words {
			for _, j := range []int{i + 1, i + 2, i + 7, i + 900} {
				if j >= len(words) {
					continue
				}
				if order, flags := impl.Compare(f, a, words[j], false); order > 0 || flags != 0 {
					t.Errorf("Compare(%d, %#x, %#x, false) is %d and %d", f, a, words[j], order, flags)
				}
				if heightOf(f, a).Cmp(heightOf(f, words[j])) > 0 {
					t.Errorf("in the order of format %d %#x stands before %#x", f, a, words[j])
				}
			}
		}
	}
}

func TestNextUpIsGreater(t *testing.T) {
	for _, f := range allFormats {
		for _, a := range append(someNumbers(f, 50000), infinityOf(f, 1)) {
			checkOrder(t, f, impl.NextUp(f, a), a, false, 1, 0)
			checkOrder(t, f, a, impl.NextUp(f, a), true, -1, 0)
		}
		// The one that has none above it.
		checkOrder(t, f, impl.NextUp(f, infinityOf(f, 0)), infinityOf(f, 0), true, 0, 0)
	}
}

func TestExtremesAreOneOfBothByTheOrder(t *testing.T) {
	for _, f := range allFormats {
		comparedPairs(f, 30000, func(a uint64, b uint64) {
			order, _ := impl.Compare(f, a, b, false)
			least, greatest := impl.Minimum(f, a, b), impl.Maximum(f, a, b)
			want := [2]uint64{a, b}
			switch {
			case order == 2:
				return
			case order > 0, order == 0 && signOf(f, a) < signOf(f, b):
				want = [2]uint64{b, a}
			}
			if got := [2]uint64{least.Bits, greatest.Bits}; got != want || least.Flags != 0 || greatest.Flags != 0 {
				t.Errorf("Minimum and Maximum of %d, %#x and %#x are %#x and %#x", f, a, b, least, greatest)
			}
		})
	}
}
