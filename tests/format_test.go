package tests

import (
	"math"
	"math/big"
	"testing"

	"loop.example/s01330/impl"
)

func checkUnpack(t *testing.T, f int, w uint64, want impl.Parts) {
	t.Helper()
	if got := impl.Unpack(f, w); got != want {
		t.Errorf("Unpack(%d, %#x) is %+v, not %+v", f, w, got, want)
	}
}

func TestUnpackByHand(t *testing.T) {
	const finite = impl.ClassFinite
	cases := []struct {
		f    int
		w    uint64
		want impl.Parts
	}{
		{impl.F32, 0, impl.Parts{Class: impl.ClassZero}},
		{impl.F32, 0x80000000, impl.Parts{Class: impl.ClassZero, Sign: 1}},
		{impl.F32, 1, impl.Parts{Class: finite, Exp: -172, Sig: 1 << 23}},
		{impl.F32, 0x80000001, impl.Parts{Class: finite, Sign: 1, Exp: -172, Sig: 1 << 23}},
		{impl.F32, 3, impl.Parts{Class: finite, Exp: -171, Sig: 3 << 22}},
		{impl.F32, 0x400000, impl.Parts{Class: finite, Exp: -150, Sig: 1 << 23}},
		{impl.F32, 0x807fffff, impl.Parts{Class: finite, Sign: 1, Exp: -150, Sig: 0xfffffe}},
		{impl.F32, 0x800000, impl.Parts{Class: finite, Exp: -149, Sig: 1 << 23}},
		{impl.F32, 0xffffff, impl.Parts{Class: finite, Exp: -149, Sig: 0xffffff}},
		{impl.F32, 0x1000000, impl.Parts{Class: finite, Exp: -148, Sig: 1 << 23}},
		{impl.F32, 0x3f800000, impl.Parts{Class: finite, Exp: -23, Sig: 1 << 23}},
		{impl.F32, 0xc0a00000, impl.Parts{Class: finite, Sign: 1, Exp: -21, Sig: 5 << 21}},
		{impl.F32, 0x7f000000, impl.Parts{Class: finite, Exp: 104, Sig: 1 << 23}},
		{impl.F32, 0xff7fffff, impl.Parts{Class: finite, Sign: 1, Exp: 104, Sig: 0xffffff}},
		{impl.F64, 0, impl.Parts{Class: impl.ClassZero}},
		{impl.F64, top, impl.Parts{Class: impl.ClassZero, Sign: 1}},
		{impl.F64, 1, impl.Parts{Class: finite, Exp: -1126, Sig: 1 << 52}},
		{impl.F64, top | 1, impl.Parts{Class: finite, Sign: 1, Exp: -1126, Sig: 1 << 52}},
		{impl.F64, 0xfffffffffffff, impl.Parts{Class: finite, Exp: -1075, Sig: 1<<53 - 2}},
		{impl.F64, 0x10000000000000, impl.Parts{Class: finite, Exp: -1074, Sig: 1 << 52}},
		{impl.F64, 0x3ff0000000000000, impl.Parts{Class: finite, Exp: -52, Sig: 1 << 52}},
		{impl.F64, 0xc014000000000000, impl.Parts{Class: finite, Sign: 1, Exp: -50, Sig: 5 << 50}},
		{impl.F64, 0xffefffffffffffff, impl.Parts{Class: finite, Sign: 1, Exp: 971, Sig: 1<<53 - 1}},
	}
	for _, c := range cases {
		checkUnpack(t, c.f, c.w, c.want)
	}
}

func TestUnpackOfNoNumber(t *testing.T) {
	for _, f := range allFormats {
		quiet := uint64(1) << (layoutOf(f).precision - 2)
		for sign := range 2 {
			infinity := infinityOf(f, sign)
			checkUnpack(t, f, infinity, impl.Parts{Class: impl.ClassInf, Sign: sign})
			for _, fraction := range []uint64{quiet, quiet + 1, 2*quiet - 1} {
				checkUnpack(t, f, infinity|fraction, impl.Parts{Class: impl.ClassQuiet, Sign: sign})
			}
			for _, fraction := range []uint64{1, 2, quiet / 2, quiet - 1} {
				checkUnpack(t, f, infinity|fraction, impl.Parts{Class: impl.ClassSignal, Sign: sign})
			}
		}
	}
}

func TestUnpackOfWhatDoesNotFit(t *testing.T) {
	want := impl.Parts{Class: impl.ClassSignal}
	for _, w := range []uint64{1 << 32, 1<<32 + 1, 1<<32 + 0x3f800000, 1<<32 + 0x80000000, 1<<33 - 1, 1 << 40, top, all} {
		checkUnpack(t, impl.F32, w, want)
	}
	checkUnpack(t, impl.F32, 1<<32-1, impl.Parts{Class: impl.ClassQuiet, Sign: 1})
	checkUnpack(t, impl.F64, all, impl.Parts{Class: impl.ClassQuiet, Sign: 1})
	for _, f := range noFormats {
		for _, w := range []uint64{0, 1, 0x3f800000, top, all} {
			checkUnpack(t, f, w, want)
		}
	}
}

// someNumbers are finite words of all exponents.
func someNumbers(f int, n int) []uint64 {
	out := edgeNumbers(f)
	l := layoutOf(f)
	m := mixed(10)
	for e := range uint64(1)<<l.width - 1 {
		full := uint64(1)<<(l.precision-1) - 1
		out = append(out, wordOf(f, 0, e, 0), wordOf(f, 1, e, full), wordOf(f, int(e&1), e, m.next()&full))
	}
	for i := range l.precision - 1 {
		out = append(out, uint64(1)<<i, turned(f, uint64(1)<<i), uint64(1)<<i-1)
	}
	for range n {
		out = append(out, m.number(f))
	}
	return out
}

func TestUnpackMeansTheNumber(t *testing.T) {
	for _, f := range allFormats {
		p := layoutOf(f).precision
		for _, w := range someNumbers(f, 20000) {
			got := impl.Unpack(f, w)
			sign, e, fraction := fieldsOf(f, w)
			if e == 0 && fraction == 0 {
				checkUnpack(t, f, w, impl.Parts{Class: impl.ClassZero, Sign: sign})
				continue
			}
			if got.Class != impl.ClassFinite || got.Sign != sign || got.Sig>>(p-1) != 1 {
				t.Fatalf("Unpack(%d, %#x) is %+v", f, w, got)
			}
			value := scaled(bigWord(got.Sig), got.Exp)
			if sign == 1 {
				value.Neg(value)
			}
			if value.Cmp(valueOf(f, w)) != 0 {
				t.Fatalf("Unpack(%d, %#x) is %+v, another number", f, w, got)
			}
		}
	}
}

func checkRound(t *testing.T, f int, mode int, sign int, exp int, sig impl.Wide, sticky bool, want impl.Result) {
	t.Helper()
	if got := impl.RoundPack(f, mode, sign, exp, sig, sticky); got != want {
		t.Errorf("RoundPack(%d, %d, %d, %d, %#x, %v) is %#x, not %#x", f, mode, sign, exp, sig, sticky, got, want)
	}
}

// checkInPieces asks for the word again from its parts, and from the same number with as few and as many bits as there are.
func checkInPieces(t *testing.T, f int, w uint64) {
	t.Helper()
	parts := impl.Unpack(f, w)
	want := impl.Result{Bits: w}
	sig := impl.Wide{Lo: parts.Sig}
	for _, mode := range allModes {
		checkRound(t, f, mode, parts.Sign, parts.Exp, sig, false, want)
		for _, n := range []int{1, 40, 128 - layoutOf(f).precision} {
			checkRound(t, f, mode, parts.Sign, parts.Exp-n, impl.ShiftLeft(sig, n), false, want)
		}
		few, exp := parts.Sig, parts.Exp
		for few != 0 && few%2 == 0 {
			few, exp = few/2, exp+1
		}
		checkRound(t, f, mode, parts.Sign, exp, impl.Wide{Lo: few}, false, want)
	}
}

func TestRoundPackOfUnpackIsTheWord(t *testing.T) {
	for _, f := range allFormats {
		for _, w := range someNumbers(f, 10000) {
			checkInPieces(t, f, w)
		}
	}
	for w := uint64(0); w < 1<<32; w += 262139 {
		if _, e, _ := fieldsOf(impl.F32, w); e != 255 {
			checkInPieces(t, impl.F32, w)
		}
	}
}

// The answers are written in the order of the ways: even, away, zero, up, down.
type inAllModes [5]impl.Result

func checkInAllModes(t *testing.T, f int, sign int, exp int, sig impl.Wide, sticky bool, want inAllModes) {
	t.Helper()
	for mode, r := range want {
		checkRound(t, f, mode, sign, exp, sig, sticky, r)
	}
}

// between are the answers for a number between the word and the one with the next magnitude: which of both, by way.
func between(lesser uint64, flags int, greater [5]uint64) inAllModes {
	var out inAllModes
	for i := range out {
		out[i] = impl.Result{Bits: lesser + greater[i], Flags: flags}
	}
	return out
}

var (
	belowHalf    = [2][5]uint64{{0, 0, 0, 1, 0}, {0, 0, 0, 0, 1}}
	halfFromEven = [2][5]uint64{{0, 1, 0, 1, 0}, {0, 1, 0, 0, 1}}
	halfFromOdd  = [2][5]uint64{{1, 1, 0, 1, 0}, {1, 1, 0, 0, 1}}
	aboveHalf    = [2][5]uint64{{1, 1, 0, 1, 0}, {1, 1, 0, 0, 1}}
)

// checkAboveWord rounds numbers between the word and the next one, which have the given exponent of the last place.
func checkAboveWord(t *testing.T, f int, sign int, w uint64, last int, flags int) {
	t.Helper()
	parts := impl.Unpack(f, w)
	count := impl.ShiftLeft(impl.Wide{Lo: parts.Sig}, 64+parts.Exp-last)
	at := func(more uint64) impl.Wide {
		sum, _ := impl.AddWide(count, impl.Wide{Lo: more})
		return sum
	}
	half := halfFromEven[sign]
	if w&1 == 1 {
		half = halfFromOdd[sign]
	}
	exp := last - 64
	checkInAllModes(t, f, sign, exp, at(0), true, between(w, flags, belowHalf[sign]))
	checkInAllModes(t, f, sign, exp, at(1), false, between(w, flags, belowHalf[sign]))
	checkInAllModes(t, f, sign, exp, at(top-1), false, between(w, flags, belowHalf[sign]))
	checkInAllModes(t, f, sign, exp, at(top-1), true, between(w, flags, belowHalf[sign]))
	checkInAllModes(t, f, sign, exp, at(top), false, between(w, flags, half))
	checkInAllModes(t, f, sign, exp, at(top), true, between(w, flags, aboveHalf[sign]))
	checkInAllModes(t, f, sign, exp, at(top+1), false, between(w, flags, aboveHalf[sign]))
	checkInAllModes(t, f, sign, exp, at(all), false, between(w, flags, aboveHalf[sign]))
	checkInAllModes(t, f, sign, exp, at(all), true, between(w, flags, aboveHalf[sign]))
}

func TestRoundPackBetweenNeighbours(t *testing.T) {
	for _, f := range allFormats {
		l := layoutOf(f)
		full := uint64(1)<<(l.precision-1) - 1
		for _, e := range []uint64{1, 2, uint64(l.emax), uint64(l.emax) + 40, 1<<l.width - 3} {
			last := int(e) + l.emin - l.precision
			for _, fraction := range []uint64{0, 1, 2, full / 2, full/2 + 1, full - 1, full} {
				for sign := range 2 {
					checkAboveWord(t, f, sign, wordOf(f, sign, e, fraction), last, impl.FlagInexact)
				}
			}
		}
	}
}

func TestRoundPackOfNumbersWithExponentBits0(t *testing.T) {
	flags := impl.FlagInexact + impl.FlagUnderflow
	for _, f := range allFormats {
		l := layoutOf(f)
		full := uint64(1)<<(l.precision-1) - 1
		for _, fraction := range []uint64{1 << (l.precision - 8), full / 2, full/2 + 1, full - 1} {
			for sign := range 2 {
				checkAboveWord(t, f, sign, wordOf(f, sign, 0, fraction), l.emin-l.precision+1, flags)
			}
		}
	}
}

func TestRoundPackToZeroOrTheLeast(t *testing.T) {
	flags := impl.FlagInexact + impl.FlagUnderflow
	for _, f := range allFormats {
		l := layoutOf(f)
		last := l.emin - l.precision + 1
		for sign := range 2 {
			zero := wordOf(f, sign, 0, 0)
			low := between(zero, flags, belowHalf[sign])
			above := between(zero, flags, aboveHalf[sign])
			checkInAllModes(t, f, sign, last-1, impl.Wide{Lo: 1}, false, between(zero, flags, halfFromEven[sign]))
			checkInAllModes(t, f, sign, last-64, impl.Wide{Lo: top}, false, between(zero, flags, halfFromEven[sign]))
			checkInAllModes(t, f, sign, last-128, impl.Wide{Hi: top}, false, between(zero, flags, halfFromEven[sign]))
			checkInAllModes(t, f, sign, last-64, impl.Wide{Lo: top - 1}, false, low)
			checkInAllModes(t, f, sign, last-64, impl.Wide{Lo: top - 1}, true, low)
			checkInAllModes(t, f, sign, last-129, impl.Wide{Hi: all, Lo: all}, true, low)
			checkInAllModes(t, f, sign, last-128, impl.Wide{Hi: top - 1, Lo: all}, true, low)
			checkInAllModes(t, f, sign, last-64, impl.Wide{Lo: top}, true, above)
			checkInAllModes(t, f, sign, last-128, impl.Wide{Hi: top}, true, above)
			checkInAllModes(t, f, sign, last-128, impl.Wide{Hi: top, Lo: 1}, false, above)
			checkInAllModes(t, f, sign, last-2, impl.Wide{Lo: 3}, false, above)
			for _, n := range []int{2, 64, 65, 127, 128, 129, 200} {
				checkInAllModes(t, f, sign, last-n, impl.Wide{Lo: 1}, false, low)
			}
			checkInAllModes(t, f, sign, -100000, impl.Wide{Lo: 1}, false, low)
			checkInAllModes(t, f, sign, -100000, impl.Wide{Hi: all, Lo: all}, true, low)
			checkInAllModes(t, f, sign, last, impl.Wide{Lo: 1}, false, between(zero+1, 0, [5]uint64{}))
			checkInAllModes(t, f, sign, last-1, impl.Wide{Lo: 3}, false, between(zero+1, flags, halfFromOdd[sign]))
		}
	}
}

// Just below 2^emin: the step of the format is two steps of one without a least exponent, so there are three halves to see.
func TestRoundPackUpToTheLeastExponent(t *testing.T) {
	const inexact, tiny = impl.FlagInexact, impl.FlagInexact + impl.FlagUnderflow
	for _, f := range allFormats {
		l := layoutOf(f)
		// Eighths of the last place with exponent bits 0.
		exp := l.emin - l.precision + 1 - 3
		full := uint64(1) << (l.precision + 2)
		for sign := range 2 {
			w := wordOf(f, sign, 0, 1<<(l.precision-1)-1)
			away := 3 + sign
			at := func(eighths uint64, sticky bool, greater [5]uint64, flagsUp [5]int) {
				t.Helper()
				want := between(w, 0, greater)
				for mode := range want {
					want[mode].Flags = flagsUp[mode]
				}
				checkInAllModes(t, f, sign, exp, impl.Wide{Lo: full - 8 + eighths}, sticky, want)
			}
			allTiny := [5]int{tiny, tiny, tiny, tiny, tiny}
			at(0, false, [5]uint64{}, [5]int{})
			at(0, true, belowHalf[sign], allTiny)
			at(4, false, halfFromOdd[sign], allTiny)
			oneNot := allTiny
			oneNot[away] = inexact
			// Above the last of the finer steps at four eighths, the directed way comes to 2^emin there too.
			at(4, true, aboveHalf[sign], oneNot)
			at(5, false, aboveHalf[sign], oneNot)
			at(5, true, aboveHalf[sign], oneNot)
			nearNot := oneNot
			nearNot[impl.REven], nearNot[impl.RAway] = inexact, inexact
			at(6, false, aboveHalf[sign], nearNot)
			at(6, true, aboveHalf[sign], nearNot)
			at(7, false, aboveHalf[sign], nearNot)
			at(7, true, aboveHalf[sign], nearNot)
			at(8, false, [5]uint64{1, 1, 1, 1, 1}, [5]int{})
		}
	}
}

func overflows(f int, sign int) inAllModes {
	var out inAllModes
	for mode := range out {
		out[mode] = overflowed(f, mode, sign == 1)
	}
	return out
}

func TestRoundPackOverflow(t *testing.T) {
	for _, f := range allFormats {
		l := layoutOf(f)
		infinity := infinityOf(f, 0)
		for sign := range 2 {
			minus := wordOf(f, sign, 0, 0)
			greatest := minus | (infinity - 1)
			over := overflows(f, sign)
			mixedUp := func(reaching [5]uint64) inAllModes {
				out := between(greatest, impl.FlagInexact, [5]uint64{})
				for mode, up := range reaching {
					if up == 1 {
						out[mode] = over[mode]
					}
				}
				return out
			}
			// Quarters of the last place.
			exp := l.emax - l.precision + 1 - 2
			full := uint64(1) << (l.precision + 2)
			checkInAllModes(t, f, sign, exp, impl.Wide{Lo: full - 4}, false, between(greatest, 0, [5]uint64{}))
			checkInAllModes(t, f, sign, exp, impl.Wide{Lo: full - 4}, true, mixedUp(belowHalf[sign]))
			checkInAllModes(t, f, sign, exp, impl.Wide{Lo: full - 3}, true, mixedUp(belowHalf[sign]))
			checkInAllModes(t, f, sign, exp, impl.Wide{Lo: full - 2}, false, mixedUp(halfFromOdd[sign]))
			checkInAllModes(t, f, sign, exp, impl.Wide{Lo: full - 2}, true, mixedUp(aboveHalf[sign]))
			checkInAllModes(t, f, sign, exp, impl.Wide{Lo: full - 1}, true, mixedUp(aboveHalf[sign]))
			checkInAllModes(t, f, sign, exp, impl.Wide{Lo: full}, false, over)
			checkInAllModes(t, f, sign, exp, impl.Wide{Lo: full}, true, over)
			checkInAllModes(t, f, sign, l.emax+1, impl.Wide{Lo: 1}, false, over)
			checkInAllModes(t, f, sign, l.emax-127, impl.Wide{Hi: all, Lo: all}, false, mixedUp(aboveHalf[sign]))
			checkInAllModes(t, f, sign, l.emax-126, impl.Wide{Hi: top}, false, over)
			for _, far := range []int{l.emax + 2, 2 * l.emax, 2*l.emax + 3, 4096, 65536, 99999, 100000} {
				checkInAllModes(t, f, sign, far, impl.Wide{Lo: 1}, false, over)
				checkInAllModes(t, f, sign, far, impl.Wide{Hi: all, Lo: all}, true, over)
			}
		}
	}
	// The answers themselves, once.
	want := between(0x7f7fffff, 20, [5]uint64{1, 1, 0, 1, 0})
	checkInAllModes(t, impl.F32, 0, 128, impl.Wide{Lo: 1}, false, want)
	want = between(0xff7fffff, 20, [5]uint64{1, 1, 0, 0, 1})
	checkInAllModes(t, impl.F32, 1, 128, impl.Wide{Lo: 1}, false, want)
}

func TestRoundPackOfZero(t *testing.T) {
	for _, f := range allFormats {
		for _, exp := range []int{-100000, -1, 0, 1, 128, 100000} {
			for sign := range 2 {
				want := between(wordOf(f, sign, 0, 0), 0, [5]uint64{})
				checkInAllModes(t, f, sign, exp, impl.Wide{}, false, want)
			}
		}
	}
}

func TestRoundPackRefusals(t *testing.T) {
	one := impl.Wide{Lo: 1}
	for _, f := range allFormats {
		refused := impl.Result{Bits: nanOf(f), Flags: impl.FlagInvalid}
		for _, mode := range noModes {
			checkRound(t, f, mode, 0, 0, one, false, refused)
			checkRound(t, f, mode, 1, 0, impl.Wide{}, false, refused)
		}
		for _, sign := range []int{math.MinInt, -2, -1, 2, 3, math.MaxInt} {
			checkRound(t, f, impl.REven, sign, 0, one, false, refused)
			checkRound(t, f, impl.RUp, sign, 0, impl.Wide{}, false, refused)
		}
		for _, exp := range []int{math.MinInt, -1 << 32, -100001, 100001, 1 << 32, math.MaxInt} {
			checkRound(t, f, impl.REven, 0, exp, one, false, refused)
			checkRound(t, f, impl.RDown, 1, exp, impl.Wide{}, false, refused)
		}
		least := uint64(1) << (layoutOf(f).precision + 1)
		for _, sig := range []uint64{0, 1, 2, least/2 - 1, least / 2, least - 1} {
			for _, mode := range allModes {
				checkRound(t, f, mode, 0, 0, impl.Wide{Lo: sig}, true, refused)
			}
		}
		exp := -layoutOf(f).precision - 1
		for sign := range 2 {
			w := wordOf(f, sign, uint64(layoutOf(f).emax), 0)
			checkInAllModes(t, f, sign, exp, impl.Wide{Lo: least}, true, between(w, impl.FlagInexact, belowHalf[sign]))
			checkInAllModes(t, f, sign, exp, impl.Wide{Lo: least}, false, between(w, 0, [5]uint64{}))
		}
	}
	for _, f := range noFormats {
		refused := impl.Result{Bits: nan64, Flags: impl.FlagInvalid}
		checkRound(t, f, impl.REven, 0, 0, one, false, refused)
		checkRound(t, f, impl.REven, 0, 0, impl.Wide{}, false, refused)
		checkRound(t, f, -1, 2, 100001, one, true, refused)
	}
}

// checkByWords rounds by what the document says, in rational numbers; a sticky one is a third of a step above sig.
func checkByWords(t *testing.T, f int, exp int, sig impl.Wide, sticky bool) {
	t.Helper()
	if sig == (impl.Wide{}) {
		return
	}
	x := new(big.Rat).SetInt(bigWide(sig))
	if sticky {
		x.Add(x, big.NewRat(1, 3))
	}
	x.Mul(x, powerOf2(exp))
	for sign := range 2 {
		for _, mode := range allModes {
			checkRound(t, f, mode, sign, exp, sig, sticky, rounded(f, mode, x))
		}
		x.Neg(x)
	}
}

func TestRoundPackByWords(t *testing.T) {
	m := mixed(11)
	for _, f := range allFormats {
		l := layoutOf(f)
		for range 1500 {
			sig := m.wide()
			size := 128 - impl.Zeros(sig)
			sticky := m.next()%2 == 0 && size >= l.precision+2
			checkByWords(t, f, int(m.next()%60)-30, sig, sticky)
			checkByWords(t, f, l.emin-size+int(m.next()%8)-4, sig, sticky)
			checkByWords(t, f, l.emin-size-int(m.next()%80), sig, sticky)
			checkByWords(t, f, l.emax-size+int(m.next()%8)-4, sig, sticky)
			near := impl.ShiftLeft(impl.Wide{Hi: all, Lo: all}, int(m.next()%128))
			checkByWords(t, f, l.emin-128+int(m.next()%3)-1, near, sticky)
			checkByWords(t, f, l.emax-128+int(m.next()%3)-1, near, sticky)
		}
	}
}

func checkNext(t *testing.T, f int, w uint64, want uint64) {
	t.Helper()
	if got := impl.NextUp(f, w); got != want {
		t.Errorf("NextUp(%d, %#x) is %#x, not %#x", f, w, got, want)
	}
}

func TestNextUpByHand(t *testing.T) {
	for _, f := range allFormats {
		infinity := infinityOf(f, 0)
		minus := wordOf(f, 1, 0, 0)
		checkNext(t, f, 0, 1)
		checkNext(t, f, minus, 1)
		checkNext(t, f, 1, 2)
		checkNext(t, f, minus|1, minus)
		checkNext(t, f, minus|2, minus|1)
		checkNext(t, f, infinity-2, infinity-1)
		checkNext(t, f, infinity-1, infinity)
		checkNext(t, f, infinity, infinity)
		checkNext(t, f, minus|infinity, minus|(infinity-1))
		checkNext(t, f, minus|(infinity-1), minus|(infinity-2))
		l := layoutOf(f)
		full := uint64(1)<<(l.precision-1) - 1
		for e := uint64(0); e < 1<<l.width-2; e++ {
			checkNext(t, f, wordOf(f, 0, e, full), wordOf(f, 0, e+1, 0))
			checkNext(t, f, wordOf(f, 1, e+1, 0), wordOf(f, 1, e, full))
		}
	}
}

func TestNextUpOfNoNumber(t *testing.T) {
	for _, f := range allFormats {
		for _, w := range edgeNaNs(f) {
			checkNext(t, f, w, nanOf(f))
		}
	}
	for _, w := range []uint64{1 << 32, 1<<32 + 0x3f800000, 1<<32 + 0x7f800000, top, all} {
		checkNext(t, impl.F32, w, nan32)
	}
	for _, f := range noFormats {
		checkNext(t, f, 0, nan64)
		checkNext(t, f, 0x3f800000, nan64)
		checkNext(t, f, all, nan64)
	}
}

func TestNextUpByTheLibrary(t *testing.T) {
	for _, w := range someNumbers(impl.F32, 20000) {
		if w&(top>>32-1) == 0 || w == 0x80000001 {
			continue
		}
		next := math.Nextafter32(math.Float32frombits(uint32(w)), float32(math.Inf(1)))
		checkNext(t, impl.F32, w, uint64(math.Float32bits(next)))
	}
	for _, w := range someNumbers(impl.F64, 20000) {
		if w&(top-1) == 0 || w == top|1 {
			continue
		}
		next := math.Nextafter(math.Float64frombits(w), math.Inf(1))
		checkNext(t, impl.F64, w, math.Float64bits(next))
	}
}
