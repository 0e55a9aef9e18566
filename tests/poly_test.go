package tests

import (
	"math"
	"math/cmplx"
	"slices"
	"testing"

	"loop.example/s01330/impl"
)

const (
	one64  = uint64(0x3ff0000000000000)
	half64 = uint64(0x3fe0000000000000)
	inf64  = uint64(0x7ff0000000000000)
)

var noLogs = []int{-1 << 63, -1<<63 + 1, -64, -2, -1, 0, impl.MaxLog + 1, impl.MaxLog + 2, 63, 64, 65, 1<<63 - 1}

// arithmetic is plus, minus, times, through and root of words, and the product of complex numbers that it comes to.
// Where halvesFirst is set, Back is done in another order than the document's.
type arithmetic struct {
	plus        func(a uint64, b uint64) uint64
	minus       func(a uint64, b uint64) uint64
	times       func(a uint64, b uint64) uint64
	through     func(a uint64, b uint64) uint64
	root        func(a uint64) uint64
	product     func(a impl.Cplx, b impl.Cplx) impl.Cplx
	halvesFirst bool
}

func canonical(x float64) uint64 {
	if math.IsNaN(x) {
		return nan64
	}
	return math.Float64bits(x)
}

// onMachine is the arithmetic of the machine. Every operation is a function, so that no two are fused.
func onMachine() arithmetic {
	of := math.Float64frombits
	m := arithmetic{
		plus:    func(a uint64, b uint64) uint64 { return canonical(of(a) + of(b)) },
		minus:   func(a uint64, b uint64) uint64 { return canonical(of(a) - of(b)) },
		times:   func(a uint64, b uint64) uint64 { return canonical(of(a) * of(b)) },
		through: func(a uint64, b uint64) uint64 { return canonical(of(a) / of(b)) },
		root:    func(a uint64) uint64 { return canonical(math.Sqrt(of(a))) },
	}
	m.product = m.partByPart
	return m
}

// inRationals is the arithmetic by the document's words.
func inRationals() arithmetic {
	const f, mode = impl.F64, impl.REven
	m := arithmetic{
		plus:    func(a uint64, b uint64) uint64 { return sumByWords(f, mode, a, b).Bits },
		minus:   func(a uint64, b uint64) uint64 { return sumByWords(f, mode, a, turned(f, b)).Bits },
		times:   func(a uint64, b uint64) uint64 { return productByWords(f, mode, a, b).Bits },
		through: func(a uint64, b uint64) uint64 { return quotientByWords(f, mode, a, b).Bits },
		root:    func(a uint64) uint64 { return rootByWords(f, mode, a).Bits },
	}
	m.product = m.partByPart
	return m
}

// fused is the machine's arithmetic with one rounding less in each part of a product.
func fused() arithmetic {
	of := math.Float64frombits
	m := onMachine()
	m.product = func(a impl.Cplx, b impl.Cplx) impl.Cplx {
		return impl.Cplx{
			Re: canonical(math.FMA(of(a.Re), of(b.Re), -of(m.times(a.Im, b.Im)))),
			Im: canonical(math.FMA(of(a.Re), of(b.Im), of(m.times(a.Im, b.Re)))),
		}
	}
	return m
}

// halving is the machine's arithmetic where Back halves before it multiplies. That tells only with numbers at the ends
// of the exponents.
func halving() arithmetic {
	m := onMachine()
	m.halvesFirst = true
	return m
}

func (m arithmetic) partByPart(a impl.Cplx, b impl.Cplx) impl.Cplx {
	return impl.Cplx{
		Re: m.minus(m.times(a.Re, b.Re), m.times(a.Im, b.Im)),
		Im: m.plus(m.times(a.Re, b.Im), m.times(a.Im, b.Re)),
	}
}

func (m arithmetic) sum(a impl.Cplx, b impl.Cplx) impl.Cplx {
	return impl.Cplx{Re: m.plus(a.Re, b.Re), Im: m.plus(a.Im, b.Im)}
}

func (m arithmetic) difference(a impl.Cplx, b impl.Cplx) impl.Cplx {
	return impl.Cplx{Re: m.minus(a.Re, b.Re), Im: m.minus(a.Im, b.Im)}
}

func (m arithmetic) byParts(a impl.Cplx, w uint64) impl.Cplx {
	return impl.Cplx{Re: m.times(a.Re, w), Im: m.times(a.Im, w)}
}

func (m arithmetic) roots(k int) []impl.Cplx {
	if k == 1 {
		return []impl.Cplx{{Re: 0, Im: one64}}
	}
	var out []impl.Cplx
	for _, w := range m.roots(k - 1) {
		var s impl.Cplx
		s.Re = m.root(m.times(m.plus(one64, w.Re), half64))
		s.Im = m.through(w.Im, m.plus(s.Re, s.Re))
		out = append(out, s, impl.Cplx{Re: s.Re ^ top, Im: s.Im ^ top})
	}
	return out
}

// everySecond are the entries with even numbers if from is 0, those with odd ones if it is 1.
func everySecond(from int, ws []uint64) []uint64 {
	var out []uint64
	for i := from; i < len(ws); i += 2 {
		out = append(out, ws[i])
	}
	return out
}

func (m arithmetic) transform(k int, cs []uint64) []impl.Cplx {
	if k == 1 {
		return []impl.Cplx{{Re: cs[0], Im: cs[1]}}
	}
	a := m.transform(k-1, everySecond(0, cs))
	b := m.transform(k-1, everySecond(1, cs))
	roots := m.roots(k)
	out := make([]impl.Cplx, len(cs)/2)
	for j := range a {
		t := m.product(roots[2*j], b[j])
		out[2*j] = m.sum(a[j], t)
		out[2*j+1] = m.difference(a[j], t)
	}
	return out
}

func (m arithmetic) back(k int, zs []impl.Cplx) []uint64 {
	if k == 1 {
		return []uint64{zs[0].Re, zs[0].Im}
	}
	a := make([]impl.Cplx, len(zs)/2)
	b := make([]impl.Cplx, len(zs)/2)
	roots := m.roots(k)
	for j := range a {
		c := impl.Cplx{Re: roots[2*j].Re, Im: roots[2*j].Im ^ top}
		a[j] = m.byParts(m.sum(zs[2*j], zs[2*j+1]), half64)
		b[j] = m.byParts(m.product(m.difference(zs[2*j], zs[2*j+1]), c), half64)
		if m.halvesFirst {
			b[j] = m.product(m.byParts(m.difference(zs[2*j], zs[2*j+1]), half64), c)
		}
	}
	even, odd := m.back(k-1, a), m.back(k-1, b)
	var out []uint64
	for i := range even {
		out = append(out, even[i], odd[i])
	}
	return out
}

func inAllSizes(test func(k int, n int)) {
	for k := 1; k <= impl.MaxLog; k++ {
		test(k, 1<<k)
	}
}

// complexes have words, taken two by two, as their parts.
func complexes(ws []uint64) []impl.Cplx {
	var out []impl.Cplx
	for i := 0; i+1 < len(ws); i += 2 {
		out = append(out, impl.Cplx{Re: ws[i], Im: ws[i+1]})
	}
	return out
}

func checkRoots(t *testing.T, k int, want []impl.Cplx) {
	t.Helper()
	if got := impl.Roots(k); !slices.Equal(got, want) {
		t.Errorf("Roots(%d) is %#x, not %#x", k, got, want)
	}
}

func checkTransform(t *testing.T, k int, cs []uint64, want []impl.Cplx) {
	t.Helper()
	if got := impl.Transform(k, cs); !slices.Equal(got, want) {
		t.Errorf("Transform(%d, %#x) is %#x, not %#x", k, cs, got, want)
	}
}

func checkBack(t *testing.T, k int, zs []impl.Cplx, want []uint64) {
	t.Helper()
	if got := impl.Back(k, zs); !slices.Equal(got, want) {
		t.Errorf("Back(%d, %#x) is %#x, not %#x", k, zs, got, want)
	}
}

func TestPolynomialsOfNoSize(t *testing.T) {
	for _, k := range noLogs {
		checkRoots(t, k, nil)
		for _, n := range []int{0, 1, 2, 4, 32, 64, 128, 256} {
			checkTransform(t, k, make([]uint64, n), nil)
			checkBack(t, k, make([]impl.Cplx, n), nil)
			checkNoProduct(t, k, make([]int, n), make([]int, n))
		}
		checkTransform(t, k, nil, nil)
		checkBack(t, k, nil, nil)
		checkNoProduct(t, k, nil, nil)
	}
}

func TestPolynomialsOfOtherLengths(t *testing.T) {
	inAllSizes(func(k int, n int) {
		for _, length := range []int{0, 1, n / 4, n/2 - 1, n / 2, n - 1, n + 1, 2 * n, 128} {
			if length != n {
				checkTransform(t, k, make([]uint64, length), nil)
				checkNoProduct(t, k, make([]int, length), make([]int, length))
				checkNoProduct(t, k, make([]int, length), make([]int, n))
				checkNoProduct(t, k, make([]int, n), make([]int, length))
			}
		}
		for _, length := range []int{0, n / 4, n/2 - 1, n/2 + 1, n, 2 * n, 128} {
			if length != n/2 {
				checkBack(t, k, make([]impl.Cplx, length), nil)
			}
		}
		checkTransform(t, k, nil, nil)
		checkBack(t, k, nil, nil)
		checkNoProduct(t, k, nil, nil)
		checkNoProduct(t, k, nil, make([]int, n))
		checkNoProduct(t, k, make([]int, n), nil)
	})
}

func TestRootsByHand(t *testing.T) {
	checkRoots(t, 1, []impl.Cplx{{Re: 0, Im: one64}})
	checkRoots(t, 2, []impl.Cplx{
		{Re: 0x3fe6a09e667f3bcd, Im: 0x3fe6a09e667f3bcc},
		{Re: 0xbfe6a09e667f3bcd, Im: 0xbfe6a09e667f3bcc},
	})
	checkRoots(t, 3, []impl.Cplx{
		{Re: 0x3fed906bcf328d46, Im: 0x3fd87de2a6aea962},
		{Re: 0xbfed906bcf328d46, Im: 0xbfd87de2a6aea962},
		{Re: 0x3fd87de2a6aea962, Im: 0xbfed906bcf328d46},
		{Re: 0xbfd87de2a6aea962, Im: 0x3fed906bcf328d46},
	})
	checkRoots(t, 4, []impl.Cplx{
		{Re: 0x3fef6297cff75cb0, Im: 0x3fc8f8b83c69a60a},
		{Re: 0xbfef6297cff75cb0, Im: 0xbfc8f8b83c69a60a},
		{Re: 0x3fc8f8b83c69a60c, Im: 0xbfef6297cff75cad},
		{Re: 0xbfc8f8b83c69a60c, Im: 0x3fef6297cff75cad},
		{Re: 0x3fea9b66290ea1a3, Im: 0xbfe1c73b39ae68c8},
		{Re: 0xbfea9b66290ea1a3, Im: 0x3fe1c73b39ae68c8},
		{Re: 0x3fe1c73b39ae68c9, Im: 0x3fea9b66290ea1a2},
		{Re: 0xbfe1c73b39ae68c9, Im: 0xbfea9b66290ea1a2},
	})
}

func TestRootsBitByBit(t *testing.T) {
	inAllSizes(func(k int, n int) {
		checkRoots(t, k, onMachine().roots(k))
		checkRoots(t, k, inRationals().roots(k))
	})
}

func complexOf(z impl.Cplx) complex128 {
	return complex(math.Float64frombits(z.Re), math.Float64frombits(z.Im))
}

func TestRootsStandForPairsOfConjugates(t *testing.T) {
	inAllSizes(func(k int, n int) {
		roots := impl.Roots(k)
		if len(roots) != n/2 {
			t.Fatalf("Roots(%d) has %d entries", k, len(roots))
		}
		for i, w := range roots {
			z := complexOf(w)
			for range k {
				z *= z
			}
			if cmplx.Abs(z+1) > 1e-12 {
				t.Errorf("root %d of Roots(%d), %v, comes to %v", i, k, complexOf(w), z)
			}
			for _, v := range roots[:i] {
				if math.Abs(real(complexOf(v))-real(complexOf(w))) < 1e-3 {
					t.Errorf("Roots(%d) has %v and %v", k, complexOf(v), complexOf(w))
				}
			}
		}
	})
}

func TestTransformByHand(t *testing.T) {
	const two = 0x4000000000000000
	checkTransform(t, 1, []uint64{one64, two}, []impl.Cplx{{Re: one64, Im: two}})
	// x at both roots are the roots: 0 and their product with 1.
	checkTransform(t, 2, []uint64{0, one64, 0, 0}, impl.Roots(2))
	// x^3 is x^2 times x, and x^2 is i.
	roots := impl.Roots(2)
	checkTransform(t, 2, []uint64{0, 0, 0, one64}, []impl.Cplx{
		{Re: roots[0].Im ^ top, Im: roots[0].Re},
		{Re: roots[0].Im, Im: roots[0].Re ^ top},
	})
	checkBack(t, 1, []impl.Cplx{{Re: one64, Im: two}}, []uint64{one64, two})
	checkBack(t, 2, []impl.Cplx{{Re: two, Im: one64}, {Re: two, Im: one64}}, []uint64{two, 0, one64, 0})
}

func TestTransformOfOnePairKeepsTheWords(t *testing.T) {
	words := append(edgeNaNs(impl.F64), edgeNumbers(impl.F64)...)
	words = append(words, inf64, inf64|top, all)
	for i, w := range words {
		v := words[(i*7+3)%len(words)]
		checkTransform(t, 1, []uint64{w, v}, []impl.Cplx{{Re: w, Im: v}})
		checkBack(t, 1, []impl.Cplx{{Re: w, Im: v}}, []uint64{w, v})
	}
}

func TestTransformOfZeros(t *testing.T) {
	inAllSizes(func(k int, n int) {
		checkTransform(t, k, make([]uint64, n), make([]impl.Cplx, n/2))
		checkBack(t, k, make([]impl.Cplx, n/2), make([]uint64, n))
	})
	// The product of (-0, -0) with the first root is (-0 minus -0, -0 plus -0), that is (0, -0).
	checkTransform(t, 2, []uint64{top, top, top, top}, []impl.Cplx{{Re: 0, Im: top}, {Re: top, Im: 0}})
	// Sums of (-0, -0) stay, differences are (0, 0); that one times (h, -h) is (0 minus -0, -0 plus 0), that is (0, 0).
	checkBack(t, 2, []impl.Cplx{{Re: top, Im: top}, {Re: top, Im: top}}, []uint64{top, 0, top, 0})
}

func TestTransformOfInfinitiesAndNaNs(t *testing.T) {
	const minusInf = inf64 | top
	checkTransform(t, 2, []uint64{inf64, 0, 0, 0}, []impl.Cplx{{Re: inf64}, {Re: inf64}})
	checkTransform(t, 2, []uint64{0, inf64, 0, 0}, []impl.Cplx{{Re: inf64, Im: inf64}, {Re: minusInf, Im: minusInf}})
	checkTransform(t, 2, []uint64{inf64, minusInf, 0, 0}, []impl.Cplx{{Re: nan64, Im: minusInf}, {Re: inf64, Im: inf64}})
	for _, nan := range edgeNaNs(impl.F64) {
		checkTransform(t, 2, []uint64{nan, 0, 0, 0}, []impl.Cplx{{Re: nan64}, {Re: nan64}})
		checkTransform(t, 2, []uint64{0, 0, nan, 0}, []impl.Cplx{{Im: nan64}, {Im: nan64}})
		checkTransform(t, 2, []uint64{0, nan, 0, 0}, []impl.Cplx{{Re: nan64, Im: nan64}, {Re: nan64, Im: nan64}})
		checkBack(t, 2, []impl.Cplx{{Re: nan}, {}}, []uint64{nan64, nan64, 0, nan64})
		checkBack(t, 2, []impl.Cplx{{}, {Im: nan}}, []uint64{0, nan64, nan64, nan64})
	}
	checkBack(t, 2, []impl.Cplx{{Re: inf64}, {}}, []uint64{inf64, inf64, 0, minusInf})
	checkBack(t, 2, []impl.Cplx{{Re: inf64}, {Re: inf64}}, []uint64{inf64, nan64, 0, nan64})
}

// many are n words that a maker makes.
func many(n int, maker func(i int) uint64) []uint64 {
	out := make([]uint64, n)
	for i := range out {
		out[i] = maker(i)
	}
	return out
}

// wordLists are lists of n words: numbers near 1, of all exponents and at both ends of them; zeros of both signs; and
// numbers among which each other kind of word stands at each place.
func wordLists(n int, rounds int) [][]uint64 {
	m := mixed(60 + n)
	ordinary := func(int) uint64 { return m.nearOne(impl.F64) }
	var out [][]uint64
	for range rounds {
		out = append(out,
			many(n, ordinary),
			many(n, func(int) uint64 { return m.number(impl.F64) }),
			many(n, func(int) uint64 { return m.next()&top | m.next()>>(12+m.next()%50) }),
			many(n, func(int) uint64 { return wordOf(impl.F64, int(m.next()%2), 0x7fe, m.next()>>12) }),
			many(n, func(int) uint64 { return wordOf(impl.F64, int(m.next()%2), 0x7f8+m.next()%7, m.next()>>12) }),
			many(n, func(int) uint64 { return m.next() & top }),
			many(n, func(int) uint64 { return m.next()&top | m.next()%9/8 }),
			many(n, func(int) uint64 { return counted(impl.F64, int(m.next()%2), m.next()%2048, 0) }),
		)
	}
	for _, special := range append([]uint64{0, top, 1, inf64, inf64 | top, inf64 - 1}, edgeNaNs(impl.F64)...) {
		for place := range n {
			list := many(n, ordinary)
			list[place] = special
			out = append(out, list)
			list = many(n, func(int) uint64 { return m.next() & top })
			list[place] = special
			out = append(out, list)
		}
	}
	return out
}

func TestTransformBitByBit(t *testing.T) {
	m := onMachine()
	inAllSizes(func(k int, n int) {
		for _, ws := range wordLists(n, 40) {
			checkTransform(t, k, ws, m.transform(k, ws))
			zs := complexes(ws)
			checkBack(t, k, zs, m.back(k, zs))
			zs = m.transform(k, ws)
			checkBack(t, k, zs, m.back(k, zs))
			if t.Failed() {
				return
			}
		}
	})
}

func TestTransformByWords(t *testing.T) {
	m := inRationals()
	inAllSizes(func(k int, n int) {
		lists := wordLists(n, 1)[:9]
		if k > 3 {
			lists = lists[:2]
		}
		for _, ws := range lists {
			checkTransform(t, k, ws, m.transform(k, ws))
			zs := complexes(ws)
			checkBack(t, k, zs, m.back(k, zs))
		}
	})
}

// The numbers of the tests above tell one order of operations from another: other orders come to other bits.
func TestTheOrderOfOperationsShows(t *testing.T) {
	m := onMachine()
	for k := 2; k <= impl.MaxLog; k++ {
		forth, back, ends := 0, 0, 0
		for _, ws := range wordLists(1<<k, 40) {
			zs := complexes(ws)
			if !slices.Equal(m.transform(k, ws), fused().transform(k, ws)) {
				forth++
			}
			if !slices.Equal(m.back(k, zs), fused().back(k, zs)) {
				back++
			}
			if !slices.Equal(m.back(k, zs), halving().back(k, zs)) {
				ends++
			}
		}
		if forth < 20 || back < 20 || ends < 20 {
			t.Errorf("for k = %d only %d, %d and %d lists tell", k, forth, back, ends)
		}
	}
}

func TestTransformIsTheValuesAtTheRoots(t *testing.T) {
	m := mixed(61)
	inAllSizes(func(k int, n int) {
		cs := many(n, func(int) uint64 { return m.nearOne(impl.F64) })
		values := impl.Transform(k, cs)
		for i, w := range impl.Roots(k) {
			var want complex128
			power := complex128(1)
			for _, c := range cs {
				want += power * complex(math.Float64frombits(c), 0)
				power *= complexOf(w)
			}
			if i >= len(values) || cmplx.Abs(complexOf(values[i])-want) > 1e-9 {
				t.Fatalf("value %d of Transform(%d, %#x) is not near %v: %#x", i, k, cs, want, values)
			}
		}
	})
}

// inFront is a list of n entries that has others behind it in its memory.
func inFront[T any](list []T, behind T) []T {
	out := append([]T{}, list...)
	for range 2 * len(list) {
		out = append(out, behind)
	}
	return out[:len(list)]
}

// checkKept tells whether an argument of a call is as it was, also behind its end.
func checkKept[T comparable](t *testing.T, what string, got []T, was []T, behind T) {
	t.Helper()
	if !slices.Equal(got, was) {
		t.Errorf("%s has changed its argument", what)
	}
	for _, x := range got[len(got) : 3*len(got)] {
		if x != behind {
			t.Errorf("%s has written behind its argument", what)
		}
	}
}

func TestTransformLeavesItsArgument(t *testing.T) {
	m := mixed(62)
	inAllSizes(func(k int, n int) {
		was := many(n, func(int) uint64 { return m.nearOne(impl.F64) })
		cs := inFront(was, uint64(77))
		zs := impl.Transform(k, cs)
		values := slices.Clone(zs)
		checkKept(t, "Transform", cs, was, 77)
		again := impl.Transform(k, cs)
		for i := range zs {
			zs[i] = impl.Cplx{Re: 1, Im: 2}
		}
		checkKept(t, "Transform", cs, was, 77)
		clear(cs)
		if !slices.Equal(again, values) {
			t.Errorf("Transform for k = %d shares memory", k)
		}
	})
}

func TestBackLeavesItsArgument(t *testing.T) {
	m := mixed(63)
	behind := impl.Cplx{Re: 77, Im: 78}
	inAllSizes(func(k int, n int) {
		was := complexes(many(n, func(int) uint64 { return m.nearOne(impl.F64) }))
		zs := inFront(was, behind)
		cs := impl.Back(k, zs)
		coefficients := slices.Clone(cs)
		checkKept(t, "Back", zs, was, behind)
		again := impl.Back(k, zs)
		clear(cs)
		checkKept(t, "Back", zs, was, behind)
		clear(zs)
		if !slices.Equal(again, coefficients) {
			t.Errorf("Back for k = %d shares memory", k)
		}
	})
}

func TestRootsAreNewMemory(t *testing.T) {
	inAllSizes(func(k int, n int) {
		roots := impl.Roots(k)
		want := slices.Clone(roots)
		for i := range roots {
			roots[i] = impl.Cplx{}
		}
		checkRoots(t, k, want)
	})
}

// Promise 12.
func TestBackOfTransformIsTheIntegers(t *testing.T) {
	m := mixed(64)
	inAllSizes(func(k int, n int) {
		for _, fs := range coefficientLists(&m, n, 200) {
			cs := many(n, func(i int) uint64 { return impl.FromInt(impl.F64, impl.REven, impl.I64, uint64(fs[i])).Bits })
			again := impl.Back(k, impl.Transform(k, cs))
			if len(again) != n {
				t.Fatalf("Back for k = %d has %d entries", k, len(again))
			}
			for i, w := range again {
				if r := impl.ToInt(impl.F64, impl.REven, impl.I64, w); int(r.Bits) != fs[i] || r.Flags&impl.FlagInvalid != 0 {
					t.Fatalf("Back of Transform(%d, %v) is %#x", k, fs, again)
				}
			}
		}
	})
}

// overIntegers is the product modulo x^n + 1.
func overIntegers(f []int, g []int) []int {
	n := len(f)
	out := make([]int, n)
	for i, x := range f {
		for j, y := range g {
			if i+j < n {
				out[i+j] += x * y
			} else {
				out[i+j-n] -= x * y
			}
		}
	}
	return out
}

func checkPolynomials(t *testing.T, k int, f []int, g []int) {
	t.Helper()
	want := overIntegers(f, g)
	if got, valid := impl.Product(k, f, g); !valid || !slices.Equal(got, want) {
		t.Errorf("Product(%d, %v, %v) is %v, %v, not %v", k, f, g, got, valid, want)
	}
}

func checkNoProduct(t *testing.T, k int, f []int, g []int) {
	t.Helper()
	if got, valid := impl.Product(k, f, g); valid || len(got) != 0 {
		t.Errorf("Product(%d, %v, %v) is %v, %v", k, f, g, got, valid)
	}
}

func coefficients(n int, maker func(i int) int) []int {
	out := make([]int, n)
	for i := range out {
		out[i] = maker(i)
	}
	return out
}

// alternating is 1 and -1 by turns of so many.
func alternating(i int, turn int) int {
	return 1 - i/turn%2*2
}

// coefficientLists are lists of n coefficients: all the same at both ends and beside them, with signs by turns, and some
// of all kinds.
func coefficientLists(m *mixed, n int, rounds int) [][]int {
	var out [][]int
	for _, x := range []int{0, 1, -1, 2, impl.MaxCoef - 1, 1 - impl.MaxCoef, impl.MaxCoef, -impl.MaxCoef} {
		out = append(out, coefficients(n, func(int) int { return x }))
	}
	for turn := 1; turn < n; turn *= 2 {
		out = append(out,
			coefficients(n, func(i int) int { return alternating(i, turn) * impl.MaxCoef }),
			coefficients(n, func(i int) int { return -alternating(i, turn) * impl.MaxCoef }),
		)
	}
	for range rounds {
		out = append(out,
			coefficients(n, func(int) int { return int(m.next()%(2*impl.MaxCoef+1)) - impl.MaxCoef }),
			coefficients(n, func(int) int { return alternating(int(m.next()%2), 1) * impl.MaxCoef }),
			coefficients(n, func(int) int { return int(m.next()%3) - 1 }),
		)
	}
	return out
}

func TestProductByHand(t *testing.T) {
	cases := []struct {
		k    int
		f    []int
		g    []int
		want []int
	}{
		{1, []int{1, 2}, []int{3, 4}, []int{-5, 10}},
		{1, []int{0, 1}, []int{0, 1}, []int{-1, 0}},
		{1, []int{2047, 2047}, []int{2047, 2047}, []int{0, 8380418}},
		{1, []int{-2047, 2047}, []int{2047, -2047}, []int{0, 8380418}},
		{1, []int{2047, -2047}, []int{2047, 2047}, []int{8380418, 0}},
		{2, []int{1, 1, 0, 0}, []int{1, -1, 0, 0}, []int{1, 0, -1, 0}},
		{2, []int{0, 0, 0, 5}, []int{0, 0, 0, -7}, []int{0, 0, 35, 0}},
		{2, []int{1, 2, 3, 4}, []int{5, 6, 7, 8}, []int{-56, -36, 2, 60}},
		{3, []int{1, 0, 0, 0, 0, 0, 0, 1}, []int{0, 3, 0, 0, 0, 0, 0, 0}, []int{-3, 3, 0, 0, 0, 0, 0, 0}},
	}
	for _, c := range cases {
		if got, valid := impl.Product(c.k, c.f, c.g); !valid || !slices.Equal(got, c.want) {
			t.Errorf("Product(%d, %v, %v) is %v, %v, not %v", c.k, c.f, c.g, got, valid, c.want)
		}
	}
}

// Promise 11.
func TestProductIsExact(t *testing.T) {
	m := mixed(65)
	inAllSizes(func(k int, n int) {
		lists := coefficientLists(&m, n, 12)
		for _, f := range lists {
			for _, g := range lists {
				checkPolynomials(t, k, f, g)
			}
		}
	})
}

func TestProductOfSingleCoefficients(t *testing.T) {
	inAllSizes(func(k int, n int) {
		for i := range n {
			for j := range n {
				f, g := make([]int, n), make([]int, n)
				f[i], g[j] = impl.MaxCoef, alternating(i+j, 1)*impl.MaxCoef
				checkPolynomials(t, k, f, g)
			}
		}
	})
}

func TestProductOfASingleCoefficientAndAll(t *testing.T) {
	m := mixed(66)
	inAllSizes(func(k int, n int) {
		for i := range n {
			single := make([]int, n)
			single[i] = alternating(i, 1) * (1 + i*31)
			other := coefficients(n, func(int) int { return int(m.next()%(2*impl.MaxCoef+1)) - impl.MaxCoef })
			checkPolynomials(t, k, single, other)
			checkPolynomials(t, k, other, single)
		}
	})
}

func TestProductOfCoefficientsBeyondTheEnds(t *testing.T) {
	beyond := []int{
		impl.MaxCoef + 1, -impl.MaxCoef - 1, impl.MaxCoef + 2, 4095, 4096, -4096, 1 << 31, -1 << 31, 1 << 32, 1<<32 + 1,
		1 << 53, 1<<63 - 1, -1 << 63, -1<<63 + 1,
	}
	inAllSizes(func(k int, n int) {
		for _, x := range beyond {
			for place := range n {
				bad, good := coefficients(n, func(i int) int { return i }), coefficients(n, func(i int) int { return 1 - i })
				bad[place] = x
				checkNoProduct(t, k, bad, good)
				checkNoProduct(t, k, good, bad)
				checkNoProduct(t, k, bad, bad)
				checkNoProduct(t, k, bad, make([]int, n))
				checkNoProduct(t, k, make([]int, n), bad)
			}
		}
		for place := range n {
			f, g := make([]int, n), make([]int, n)
			f[place], g[place] = impl.MaxCoef, -impl.MaxCoef
			checkPolynomials(t, k, f, g)
			checkPolynomials(t, k, g, f)
			checkPolynomials(t, k, f, f)
			checkPolynomials(t, k, g, g)
		}
	})
}

func TestProductLeavesItsArguments(t *testing.T) {
	inAllSizes(func(k int, n int) {
		fWas, gWas := coefficients(n, func(i int) int { return i - 5 }), coefficients(n, func(i int) int { return 9 - i*i/3 })
		f, g := inFront(fWas, 77), inFront(gWas, 78)
		got, _ := impl.Product(k, f, g)
		checkKept(t, "Product", f, fWas, 77)
		checkKept(t, "Product", g, gWas, 78)
		again, _ := impl.Product(k, f, g)
		clear(got)
		checkKept(t, "Product", f, fWas, 77)
		checkKept(t, "Product", g, gWas, 78)
		clear(f)
		clear(g)
		if !slices.Equal(again, overIntegers(fWas, gWas)) {
			t.Errorf("Product for k = %d shares memory", k)
		}
		// One list may stand for both.
		checkPolynomials(t, k, fWas, fWas)
	})
}
