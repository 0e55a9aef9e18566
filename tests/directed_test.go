package tests

import (
	"testing"

	"loop.example/s01330/impl"
)

// inEachWay are the answers of one call, by way.
func inEachWay(call func(mode int) impl.Result) inAllModes {
	var out inAllModes
	for mode := range out {
		out[mode] = call(mode)
	}
	return out
}

// height is where a word that is no NaN stands among all of its format. Both zeros stand at 0.
func height(f int, w uint64) int64 {
	if signOf(f, w) == 1 {
		return -int64(magnitudeOf(f, w))
	}
	return int64(w)
}

func isSumOf0(f int, rs inAllModes) bool {
	return rs == ofNothing(f)
}

// directedFault says what is wrong between the answers of one call in the five ways; nothing for NaNs.
func directedFault(f int, sums bool, rs inAllModes) string {
	down, up := rs[impl.RDown], rs[impl.RUp]
	for _, r := range rs {
		if isNaN(f, r.Bits) {
			if rs != always(r.Bits, r.Flags) {
				return "not a NaN in every way"
			}
			return ""
		}
		if r.Flags&inexact != down.Flags&inexact {
			return "inexact in some ways only"
		}
	}
	if sums && isSumOf0(f, rs) {
		return ""
	}
	nearer := down
	if signOf(f, down.Bits) == 1 {
		nearer = up
	}
	switch {
	case height(f, down.Bits) > height(f, up.Bits):
		return "downward is more than upward"
	case (down.Bits == up.Bits) != (down.Flags&inexact == 0):
		return "inexact does not say whether downward and upward are the same"
	case down.Bits != up.Bits && up.Bits != impl.NextUp(f, down.Bits):
		return "upward is not next to downward"
	case rs[impl.REven].Bits != down.Bits && rs[impl.REven].Bits != up.Bits:
		return "to even is neither downward nor upward"
	case rs[impl.RAway].Bits != down.Bits && rs[impl.RAway].Bits != up.Bits:
		return "away is neither downward nor upward"
	case rs[impl.RZero].Bits != nearer.Bits:
		return "toward zero is not the nearer one"
	}
	return ""
}

func checkDirected(t *testing.T, what string, f int, sums bool, call func(mode int) impl.Result, args ...any) {
	t.Helper()
	rs := inEachWay(call)
	if fault := directedFault(f, sums, rs); fault != "" {
		t.Errorf("%s(%d, .., %#x): %s: %#x", what, f, args, fault, rs)
	}
}

// onePairs are those that pairs asks for in one of the ways.
func onePairs(f int, ask func(a uint64, b uint64)) {
	pairs(f, func(mode int, a uint64, b uint64) {
		if mode == impl.REven {
			ask(a, b)
		}
	})
}

func TestDirectedFaultsAreSeen(t *testing.T) {
	one := uint64(0x3f800000)
	good := []inAllModes{
		always(one, exact), between(one, inexact, belowHalf[0]), between(turned(impl.F32, one), inexact, aboveHalf[1]),
		always(nan32, impl.FlagInvalid), overflows(impl.F32, 0), overflows(impl.F32, 1), ofNothing(impl.F32),
		between(0, tooLittle, halfFromEven[0]), between(0x80000000, tooLittle, belowHalf[1]),
	}
	for i, rs := range good {
		if fault := directedFault(impl.F32, true, rs); fault != "" {
			t.Errorf("%d: %s", i, fault)
		}
	}
	bad := []inAllModes{
		always(one, inexact), between(one, exact, belowHalf[0]), between(one, inexact, belowHalf[1]),
		between(one, inexact, [5]uint64{0, 0, 0, 2, 0}), between(one, inexact, [5]uint64{2, 0, 0, 1, 0}),
		between(one, inexact, [5]uint64{0, 2, 0, 1, 0}), between(one, inexact, [5]uint64{0, 0, 1, 1, 0}),
		{impl.RUp: impl.Result{Bits: nan32}},
	}
	for i, rs := range bad {
		if directedFault(impl.F32, true, rs) == "" {
			t.Errorf("%d is not seen: %#x", i, rs)
		}
	}
	if directedFault(impl.F32, false, ofNothing(impl.F32)) == "" {
		t.Error("zeros of two signs are not seen where there is no sum")
	}
}

func TestSumsAndProductsInDirectedWays(t *testing.T) {
	for _, f := range allFormats {
		m := mixed(60)
		onePairs(f, func(a uint64, b uint64) {
			checkDirected(t, "Add", f, true, func(mode int) impl.Result { return impl.Add(f, mode, a, b) }, a, b)
			checkDirected(t, "Sub", f, true, func(mode int) impl.Result { return impl.Sub(f, mode, a, b) }, a, b)
			checkDirected(t, "Mul", f, false, func(mode int) impl.Result { return impl.Mul(f, mode, a, b) }, a, b)
			near := impl.Mul(f, impl.RZero, a, b).Bits
			for _, c := range []uint64{0, turned(f, 0), turned(f, near), m.number(f), m.beside(f, a), infinityOf(f, 1)} {
				checkDirected(t, "Fma", f, true, func(mode int) impl.Result { return impl.Fma(f, mode, a, b, c) }, a, b, c)
			}
		})
	}
}

func TestQuotientsAndRootsInDirectedWays(t *testing.T) {
	for _, f := range allFormats {
		m := mixed(61)
		onePairs(f, func(a uint64, b uint64) {
			checkDirected(t, "Div", f, false, func(mode int) impl.Result { return impl.Div(f, mode, a, b) }, a, b)
			c := m.tinyQuotient(f, b)
			checkDirected(t, "Div", f, false, func(mode int) impl.Result { return impl.Div(f, mode, c, b) }, c, b)
			for _, w := range []uint64{a, b, magnitudeOf(f, a), impl.Mul(f, impl.REven, a, a).Bits} {
				checkDirected(t, "Sqrt", f, false, func(mode int) impl.Result { return impl.Sqrt(f, mode, w) }, w)
			}
		})
	}
}

func TestFromIntInDirectedWays(t *testing.T) {
	for _, f := range allFormats {
		m := mixed(62)
		for _, kind := range allKinds {
			for _, w := range append(m.integers(kind, 20000), edgeWords...) {
				checkDirected(t, "FromInt", f, false, func(mode int) impl.Result { return impl.FromInt(f, mode, kind, w) }, kind, w)
			}
		}
	}
}

func TestConvertInDirectedWays(t *testing.T) {
	for _, from := range allFormats {
		words := append(someNumbers(from, 30000), edgeNaNs(from)...)
		words = append(words, someOperands(from)...)
		for _, to := range allFormats {
			for _, a := range words {
				checkDirected(t, "Convert", to, false, func(mode int) impl.Result { return impl.Convert(from, to, mode, a) }, from, a)
			}
		}
	}
}
