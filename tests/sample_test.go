package tests

import (
	"encoding/binary"
	"math"
	"math/big"
	"strings"
	"testing"

	"loop.example/s01330/impl"
)

const (
	two40  = uint64(0x4270000000000000)
	two32  = uint64(0x41f0000000000000)
	two63  = uint64(0x43e0000000000000)
	eighth = uint64(0x3fc0000000000000)
)

var refused = impl.Drawn{Status: impl.SampleRejected}

func exhausted(tries int) impl.Drawn {
	return impl.Drawn{Status: impl.SampleExhausted, Used: 17 * tries, Tries: tries}
}

func drawn(z int, tries int) impl.Drawn {
	return impl.Drawn{Status: impl.SampleOk, Z: z, Used: 17 * tries, Tries: tries}
}

// falling is exp(-x): one through a series in which nothing is taken away.
func falling(x *big.Rat) *big.Float {
	const places = 400
	number := func() *big.Float { return new(big.Float).SetPrec(places) }
	step := number().SetRat(x)
	term, sum := number().SetInt64(1), number().SetInt64(1)
	for n := range int64(1000) {
		term.Mul(term, step)
		term.Quo(term, number().SetInt64(n+1))
		sum.Add(sum, term)
	}
	return sum.Quo(number().SetInt64(1), sum)
}

// nearestTo is x * 2^n, rounded.
func nearestTo(x *big.Float, n int) uint64 {
	y := new(big.Float).SetMantExp(x, n)
	whole, _ := y.Add(y, big.NewFloat(0.5)).Int(nil)
	return whole.Uint64()
}

// tails are the numbers of Base by what the document says they are.
func tails() []uint64 {
	const last = 45
	rests := make([]*big.Float, last+1)
	rest := new(big.Float).SetPrec(400)
	for m := last; m >= 0; m-- {
		rests[m] = new(big.Float).Copy(rest)
		rest.Add(rest, falling(big.NewRat(int64(m*m), 8)))
	}
	return many(18, func(i int) uint64 { return nearestTo(new(big.Float).Quo(rests[i], rest), 64) })
}

// factors are the numbers of Decay by what the document says they are.
func factors() []uint64 {
	return many(38, func(i int) uint64 { return nearestTo(falling(powerOf2(i-32)), 63) })
}

var (
	allTails   = tails()
	allFactors = factors()
)

func TestTheNumbersOfTheDocument(t *testing.T) {
	if allTails[0] != 12311384997445461060 || allTails[9] != 24618334939658 || allTails[17] != 16 {
		t.Errorf("the numbers of Base are not those: %d", allTails)
	}
	if allFactors[0] != 9223372034707292160 || allFactors[20] != 9221120511896629248 || allFactors[37] != 116806 {
		t.Errorf("the numbers of Decay are not those: %d", allFactors)
	}
}

func checkBase(t *testing.T, u uint64, want int) {
	t.Helper()
	if got := impl.Base(u); got != want {
		t.Errorf("Base(%d) is %d, not %d", u, got, want)
	}
}

func TestBaseAtItsNumbers(t *testing.T) {
	checkBase(t, 0, 18)
	checkBase(t, 1, 18)
	checkBase(t, all, 0)
	checkBase(t, all-1, 0)
	checkBase(t, top, 1)
	for i, tail := range allTails {
		checkBase(t, tail-1, i+1)
		checkBase(t, tail, i)
		checkBase(t, tail+1, i)
	}
}

func TestBaseByWords(t *testing.T) {
	m := mixed(70)
	for range 20000 {
		u := m.word()
		want := 0
		for _, tail := range allTails {
			if tail > u {
				want++
			}
		}
		checkBase(t, u, want)
	}
}

// Promise 13, the first half.
func TestBaseDoesNotGrow(t *testing.T) {
	m := mixed(71)
	words := append([]uint64{0, 1, all - 1, all}, edgeWords...)
	for _, tail := range allTails {
		words = append(words, tail-1, tail, tail+1)
	}
	for range 500 {
		words = append(words, m.word())
	}
	for _, u := range words {
		for _, v := range words {
			if u < v && impl.Base(u) < impl.Base(v) {
				t.Errorf("Base(%d) is %d, but Base(%d) is %d", u, impl.Base(u), v, impl.Base(v))
			}
		}
	}
}

// decayByWords goes through the factors in the order that is given.
func decayByWords(u uint64, order []int) uint64 {
	if u >= 1<<38 {
		return 0
	}
	y := power(63)
	for _, i := range order {
		if bigWord(u).Bit(i) == 1 {
			y.Mul(y, bigWord(allFactors[i]))
			y.Div(y, power(63))
		}
	}
	return y.Uint64()
}

func rising() []int {
	return coefficients(38, func(i int) int { return i })
}

func checkDecay(t *testing.T, u uint64, want uint64) {
	t.Helper()
	if got := impl.Decay(u); got != want {
		t.Errorf("Decay(%d) is %d, not %d", u, got, want)
	}
}

func TestDecayAtItsEnds(t *testing.T) {
	checkDecay(t, 0, 1<<63)
	checkDecay(t, 1<<38-1, 0)
	for n := 38; n < 64; n++ {
		checkDecay(t, 1<<n, 0)
		checkDecay(t, 1<<n+1, 0)
		checkDecay(t, 1<<n|1<<n-1, 0)
	}
	checkDecay(t, all, 0)
}

func TestDecayOfSingleBits(t *testing.T) {
	for i, factor := range allFactors {
		checkDecay(t, 1<<i, factor)
	}
}

func TestDecayByHand(t *testing.T) {
	// (2^63 - 2^31) * (2^63 - 2^32 + 1) / 2^63 is 2^63 - 2^32 - 2^31 + 2 - 2^-32: nearly a whole is lost.
	checkDecay(t, 3, 1<<63-1<<32-1<<31+1)
	// 1037953783668 * 116806 is below 2^63.
	checkDecay(t, 1<<36+1<<37, 0)
	checkDecay(t, 1<<36+1<<35, 348194703)
}

func TestDecayByWords(t *testing.T) {
	order := rising()
	for i := range 38 {
		for j := range i {
			checkDecay(t, 1<<i|1<<j, decayByWords(1<<i|1<<j, order))
		}
		checkDecay(t, 1<<i-1, decayByWords(1<<i-1, order))
		checkDecay(t, 1<<38-1<<i, decayByWords(1<<38-1<<i, order))
	}
	m := mixed(72)
	for range 20000 {
		u := m.next() >> (26 + m.next()%38)
		checkDecay(t, u, decayByWords(u, order))
	}
}

// The numbers of the test above tell whether each product is rounded, and in the order of the bits.
func TestTheOrderOfFactorsShows(t *testing.T) {
	m := mixed(73)
	order := rising()
	var falling []int
	for i := range order {
		falling = append(falling, 37-i)
	}
	other := 0
	for range 1000 {
		if u := m.next() >> 28; decayByWords(u, order) != decayByWords(u, falling) {
			other++
		}
	}
	if other < 100 {
		t.Errorf("only %d numbers tell", other)
	}
}

func TestDecayIsNearTheFunction(t *testing.T) {
	m := mixed(74)
	for range 10000 {
		u := m.next() >> (26 + m.next()%38)
		want := math.Ldexp(math.Exp(-math.Ldexp(float64(u), -32)), 63)
		if got := float64(impl.Decay(u)); math.Abs(got-want) > 40+want*1e-14 {
			t.Errorf("Decay(%d) is %v, and the function %v", u, got, want)
		}
	}
}

// Promise 13, the second half.
func TestDecayDoesNotGrow(t *testing.T) {
	m := mixed(75)
	for range 2000 {
		u := m.next() >> (26 + m.next()%38)
		for i := range 64 {
			with, without := impl.Decay(u|1<<i), impl.Decay(u&^(1<<i))
			if with > without {
				t.Errorf("Decay(%d) is %d, but without bit %d it is %d", u|1<<i, with, i, without)
			}
		}
	}
}

// tryOf is the 17 bytes of a try.
func tryOf(u uint64, c byte, v uint64) string {
	out := binary.LittleEndian.AppendUint64(nil, u)
	out = append(out, c)
	return string(binary.LittleEndian.AppendUint64(out, v))
}

func checkSample(t *testing.T, mu uint64, inv uint64, scale uint64, draws string, want impl.Drawn) {
	t.Helper()
	if got := impl.Sample(mu, inv, scale, draws); got != want {
		t.Errorf("Sample(%#x, %#x, %#x, %d bytes %.40q) is %v, not %v", mu, inv, scale, len(draws), draws, got, want)
	}
}

func wordOfFloat(x float64) uint64 {
	return math.Float64bits(x)
}

func TestSampleByHand(t *testing.T) {
	const far, near = all, 0
	cases := []struct {
		mu    float64
		draws string
		want  impl.Drawn
	}{
		// At mu itself nothing is lost, so every v is less.
		{0, tryOf(all, 0, far), drawn(0, 1)},
		{math.Copysign(0, -1), tryOf(all, 0, far), drawn(0, 1)},
		{7, tryOf(all, 0, far), drawn(7, 1)},
		{-7, tryOf(all, 2, far), drawn(-7, 1)},
		{7, tryOf(all, 1, near), drawn(8, 1)},
		{7, tryOf(all, 255, near), drawn(8, 1)},
		{7, tryOf(all, 254, near), drawn(7, 1)},
		// Between two whole numbers: the one below by an even byte, the one above by an odd one.
		{7.5, tryOf(all, 0, near), drawn(7, 1)},
		{7.5, tryOf(all, 1, near), drawn(8, 1)},
		{-7.5, tryOf(all, 0, near), drawn(-8, 1)},
		{-7.5, tryOf(all, 1, near), drawn(-7, 1)},
		{-0.25, tryOf(all, 0, near), drawn(-1, 1)},
		{-0.25, tryOf(all, 1, near), drawn(0, 1)},
		// Greater z0 lie farther from mu on both sides, the odd side by one more.
		{0, tryOf(top, 0, near), drawn(-1, 1)},
		{0, tryOf(top, 1, near), drawn(2, 1)},
		{100, tryOf(1<<47, 0, near), drawn(91, 1)},
		// 324/2 - 324/8 is 121.5, and 361/2 - 324/8 is 140: nothing is left of exp(-64) or less.
		{0, tryOf(0, 0, near), exhausted(1)},
		{0, tryOf(0, 1, near), exhausted(1)},
		// The ends of mu
		{1 << 40, tryOf(all, 0, far), drawn(1<<40, 1)},
		{-1 << 40, tryOf(all, 0, far), drawn(-1<<40, 1)},
		{1 << 40, tryOf(top, 1, near), drawn(1<<40+2, 1)},
		{-1 << 40, tryOf(top, 0, near), drawn(-1<<40-1, 1)},
		// Nothing to try
		{7, "", exhausted(0)},
		{7, tryOf(all, 0, near)[:16], exhausted(0)},
	}
	for _, c := range cases {
		checkSample(t, wordOfFloat(c.mu), one64, one64, c.draws, c.want)
	}
}

func TestSampleOfGreatZ0(t *testing.T) {
	// With an inv of a half, each z0 lies where exp(-z0^2 / 8) is wanted: nothing is lost on the even side at mu.
	for i, tail := range allTails {
		checkSample(t, 0, half64, one64, tryOf(tail, 0, all), drawn(-i, 1))
		checkSample(t, 0, half64, one64, tryOf(tail-1, 0, all), drawn(-i-1, 1))
		checkSample(t, 0, half64, one64, tryOf(tail, 1, 0), drawn(i+1, 1))
	}
	checkSample(t, 0, half64, one64, tryOf(0, 0, all), drawn(-18, 1))
	checkSample(t, 0, half64, one64, tryOf(0, 1, 0), drawn(19, 1))
}

func TestSampleOfWrongArguments(t *testing.T) {
	good := tryOf(all, 0, 0)
	least := uint64(1)
	mus := []uint64{0, top, 1, top | 1, one64, turned(impl.F64, one64), two40 - 1, two40, top | (two40 - 1), top | two40}
	noMus := []uint64{two40 + 1, top | (two40 + 1), two40 + 1<<52, inf64 - 1, inf64, top | inf64, all, nan64, 0x7ff0000000000001}
	invs := []uint64{half64, half64 + 1, 0x3fe8000000000000, one64 - 1, one64}
	noInvs := []uint64{half64 - 1, one64 + 1, 0, top, 1, top | half64, top | one64, 0x4000000000000000, inf64, top | inf64}
	scales := []uint64{least, 2, 1 << 52, half64, one64 - 1, one64}
	noScales := []uint64{0, top, top | 1, top | half64, top | one64, one64 + 1, 0x4000000000000000, inf64, top | inf64}
	noInvs, noScales = append(noInvs, edgeNaNs(impl.F64)...), append(noScales, edgeNaNs(impl.F64)...)
	noMus = append(noMus, edgeNaNs(impl.F64)...)
	reject := func(mu uint64, inv uint64, scale uint64) {
		for _, draws := range []string{"", good[:16], good, strings.Repeat(good, 3)} {
			checkSample(t, mu, inv, scale, draws, refused)
		}
	}
	for _, inv := range invs {
		for _, scale := range scales {
			for _, mu := range mus {
				checkSample(t, mu, inv, scale, "", exhausted(0))
			}
			for _, mu := range noMus {
				reject(mu, inv, scale)
			}
		}
	}
	for _, mu := range append(mus, noMus...) {
		for _, scale := range scales {
			for _, inv := range noInvs {
				reject(mu, inv, scale)
			}
		}
		for _, scale := range noScales {
			for _, inv := range append(invs, noInvs...) {
				reject(mu, inv, scale)
			}
		}
	}
}

func TestSampleOfAllLengths(t *testing.T) {
	good, bad := tryOf(all, 0, 0), tryOf(0, 0, 0)
	for _, n := range []int{0, 1, 8, 9, 16, 17, 18, 33, 34, 35, 50, 51, 19991, 19992, 19999, 20000} {
		draws := strings.Repeat(bad, 1200)[:n]
		checkSample(t, one64, one64, one64, draws, exhausted(n/17))
		if n >= 17 {
			last := n/17 - 1
			accepted := draws[:17*last] + good + draws[17*last+17:]
			checkSample(t, one64, one64, one64, accepted, drawn(1, last+1))
		}
	}
	for _, n := range []int{20001, 20002, 20009, 40000} {
		checkSample(t, one64, one64, one64, strings.Repeat(good, 3000)[:n], refused)
		checkSample(t, one64, one64, one64, strings.Repeat(bad, 3000)[:n], refused)
	}
	// A draw is of bytes, not of signs.
	checkSample(t, one64, one64, one64, strings.Repeat("é", 8)+"\x01"+strings.Repeat("\x00", 8), drawn(3, 1))
	checkSample(t, one64, one64, one64, strings.Repeat("é", 8), exhausted(0))
}

func TestSampleOfScales(t *testing.T) {
	at := func(scale uint64, v uint64, want impl.Drawn) {
		t.Helper()
		checkSample(t, 0, one64, scale, tryOf(all, 0, v), want)
	}
	at(one64, all, drawn(0, 1))
	// Just below 1: 2^63 - 2^10 of 2^63
	at(one64-1, 1<<64-1<<11-1, drawn(0, 1))
	at(one64-1, 1<<64-1<<11, exhausted(1))
	at(half64, 1<<63-1, drawn(0, 1))
	at(half64, 1<<63, exhausted(1))
	// 1.5 * 2^-63 is 1, half of that nothing
	at(wordOfFloat(0x1.8p-63), 1, drawn(0, 1))
	at(wordOfFloat(0x1.8p-63), 2, exhausted(1))
	at(wordOfFloat(0x1p-63), 0, drawn(0, 1))
	at(wordOfFloat(0x1.fffffffffffffp-64), 0, exhausted(1))
	at(1, 0, exhausted(1))
}

// A wager is a try without its v.
type wager struct {
	mu    uint64
	inv   uint64
	scale uint64
	u     uint64
	c     byte
}

func (w wager) sizeAndSide() (int, int) {
	size := 0
	for _, tail := range allTails {
		if tail > w.u {
			size++
		}
	}
	if w.c%2 == 1 {
		return size, size + 1
	}
	return size, -size
}

func integerWordOf(x int) uint64 {
	return fromIntByWords(impl.F64, impl.REven, impl.I64, uint64(x)).Bits
}

func (w wager) floor() uint64 {
	return roundIntByWords(impl.F64, impl.RDown, w.mu, false).Bits
}

// distance is d.
func (m arithmetic) distance(w wager) uint64 {
	_, z := w.sizeAndSide()
	return m.minus(integerWordOf(z), m.minus(w.mu, w.floor()))
}

// narrow is h, and less what x is less.
func (m arithmetic) narrow(w wager) uint64 {
	return m.times(m.times(w.inv, w.inv), half64)
}

func (m arithmetic) less(w wager) uint64 {
	size, _ := w.sizeAndSide()
	return m.times(integerWordOf(size*size), eighth)
}

func (m arithmetic) loss(w wager) uint64 {
	d := m.distance(w)
	return m.minus(m.times(m.times(d, d), m.narrow(w)), m.less(w))
}

// bound is the number a that v / 2 has to be less than.
func (m arithmetic) bound(scale uint64, x uint64) uint64 {
	integer := func(w uint64) uint64 {
		if signOf(impl.F64, w) == 1 {
			return 0
		}
		return toIntByWords(impl.F64, impl.RZero, impl.U64, w).Bits
	}
	y := bigWord(decayByWords(integer(m.times(x, two32)), rising()))
	y.Mul(y, bigWord(integer(m.times(scale, two63))))
	return y.Div(y, power(63)).Uint64()
}

// checkWager asks for the greatest v that is accepted and the least one that is not.
func checkWager(t *testing.T, m arithmetic, w wager) {
	t.Helper()
	_, z := w.sizeAndSide()
	z += int(toIntByWords(impl.F64, impl.RZero, impl.I64, w.floor()).Bits)
	bound := m.bound(w.scale, m.loss(w))
	if bound > 0 {
		checkSample(t, w.mu, w.inv, w.scale, tryOf(w.u, w.c, 2*bound-1), drawn(z, 1))
		checkSample(t, w.mu, w.inv, w.scale, tryOf(w.u, w.c, 0), drawn(z, 1))
	}
	if bound < 1<<63 {
		checkSample(t, w.mu, w.inv, w.scale, tryOf(w.u, w.c, 2*bound), exhausted(1))
		checkSample(t, w.mu, w.inv, w.scale, tryOf(w.u, w.c, all), exhausted(1))
	}
}

// wager is one with numbers of all kinds that are valid, and mostly a z0 at which something can be accepted.
func (m *mixed) wager() wager {
	w := wager{
		mu:    wordOf(impl.F64, int(m.next()%2), 1015+m.next()%16, m.next()>>12),
		inv:   half64 + m.next()>>12,
		scale: one64 - m.next()>>(8+m.next()%8),
		u:     m.next(),
		c:     byte(m.next()),
	}
	switch m.next() % 8 {
	case 0:
		w.u = m.word()
	case 1:
		w.mu = m.next()&top | m.next()%two40
	case 2:
		w.inv = []uint64{half64, half64 + 1, one64 - 1, one64}[m.next()%4]
	case 3:
		w.scale = []uint64{one64, one64 - 1, half64, 1}[m.next()%4]
	case 4:
		w.mu = wordOfFloat(float64(int(m.next()%400)-200) / 4)
	case 5:
		w.mu = wordOf(impl.F64, int(m.next()%2), 1023+m.next()%40, m.next()>>12)
	}
	return w
}

// turning is a wager whose x * 2^32 lies beside a whole number, where each rounding of x tells.
func (m *mixed) turning() wager {
	w := m.wager()
	size, _ := w.sizeAndSide()
	less := float64(size*size) / 8
	machine := onMachine()
	x := math.Float64frombits(machine.loss(w))
	d := math.Abs(math.Float64frombits(machine.distance(w)))
	whole := math.Ldexp(math.Floor(math.Ldexp(x, 32)), -32)
	inv := wordOfFloat(math.Sqrt(2*(whole+less))/d) + m.next()%3 - 1
	if inv >= half64 && inv <= one64 {
		w.inv = inv
	}
	return w
}

func TestSampleBitByBit(t *testing.T) {
	m := mixed(76)
	for range 10000 {
		checkWager(t, onMachine(), m.wager())
		checkWager(t, onMachine(), m.turning())
	}
}

func TestSampleByWords(t *testing.T) {
	m := mixed(77)
	for range 1000 {
		checkWager(t, inRationals(), m.wager())
		checkWager(t, inRationals(), m.turning())
	}
}

// The wagers of the tests above tell one order of operations from another.
func TestTheOrderOfASampleShows(t *testing.T) {
	m, machine := mixed(76), onMachine()
	of := math.Float64frombits
	fromRight, once, straight := 0, 0, 0
	for range 10000 {
		m.wager()
		w := m.turning()
		d, h, less := machine.distance(w), machine.narrow(w), machine.less(w)
		bound := machine.bound(w.scale, machine.loss(w))
		if machine.bound(w.scale, machine.minus(machine.times(d, machine.times(d, h)), less)) != bound {
			fromRight++
		}
		if machine.bound(w.scale, canonical(math.FMA(of(machine.times(d, d)), of(h), -of(less)))) != bound {
			once++
		}
		_, z := w.sizeAndSide()
		d = machine.minus(machine.plus(integerWordOf(z), w.floor()), w.mu)
		if machine.bound(w.scale, machine.minus(machine.times(machine.times(d, d), h), less)) != bound {
			straight++
		}
	}
	if fromRight < 100 || once < 100 || straight < 20 {
		t.Errorf("only %d, %d and %d wagers tell", fromRight, once, straight)
	}
}

// For valid arguments d is never nearer to 0 than z0, nor h less than an eighth: x is 0 at the least, which is where all
// is accepted, and there it comes to 0 for every z0.
func TestSampleWhereNothingIsLost(t *testing.T) {
	justBelow := []uint64{top | 1, top | 1<<52, wordOfFloat(-0x1p-60), wordOfFloat(-0x1p-54)}
	for i, tail := range allTails {
		for _, u := range []uint64{tail, tail - 1} {
			for _, mu := range justBelow {
				w := wager{mu: mu, inv: half64, scale: one64, u: u, c: 1}
				if x := onMachine().loss(w); x != 0 {
					t.Errorf("x is %#x for z0 near %d", x, i)
				}
				checkWager(t, onMachine(), w)
			}
			checkWager(t, onMachine(), wager{mu: wordOfFloat(-3), inv: half64, scale: one64, u: u, c: 0})
		}
	}
	m := mixed(80)
	for range 20000 {
		w := m.wager()
		w.inv = half64 + m.next()%3
		w.mu = wordOfFloat(float64(int(m.next()%5)-2)) ^ m.next()%4
		if x := onMachine().loss(w); x>>63 == 1 {
			t.Errorf("x is %#x, below 0, for %v", x, w)
		}
	}
}

// draws are tries among which an accepted try is neither sure nor rare.
func (m *mixed) draws(tries int) string {
	var out strings.Builder
	for range tries {
		v := m.next()
		if m.next()%3 > 0 {
			v |= 15 << 60
		}
		out.WriteString(tryOf(m.next(), byte(m.next()), v))
	}
	return out.String()
}

// Promise 14.
func TestSampleTakesTheFirstThatIsAccepted(t *testing.T) {
	m := mixed(78)
	const most = 12
	tries := [most + 1]int{}
	for range 300 {
		w := m.wager()
		draws := m.draws(most)
		got := impl.Sample(w.mu, w.inv, w.scale, draws)
		if got.Used != 17*got.Tries || got.Tries > most || got.Status == impl.SampleRejected {
			t.Fatalf("Sample of %v and %q is %v", w, draws, got)
		}
		if got.Status == impl.SampleOk {
			tries[got.Tries]++
		}
		checkFirst(t, w, draws, got)
	}
	for n := 1; n <= 6; n++ {
		if tries[n] < 3 {
			t.Errorf("only %d wagers took %d tries", tries[n], n)
		}
	}
}

// checkFirst asks again with less, with what is needed, and with something else behind.
func checkFirst(t *testing.T, w wager, draws string, got impl.Drawn) {
	t.Helper()
	for n := range got.Used {
		checkSample(t, w.mu, w.inv, w.scale, draws[:n], exhausted(n/17))
	}
	for i := range got.Tries {
		alone := exhausted(1)
		if i == got.Tries-1 && got.Status == impl.SampleOk {
			alone = drawn(got.Z, 1)
		}
		checkSample(t, w.mu, w.inv, w.scale, draws[17*i:17*i+17], alone)
	}
	if got.Status == impl.SampleOk {
		for _, behind := range []string{"", "x", draws, strings.Repeat("\x00", 17), strings.Repeat("\xff", 1000)} {
			checkSample(t, w.mu, w.inv, w.scale, draws[:got.Used]+behind, got)
		}
	}
}

// Over many draws the integers come as often as the curve says.
func TestSampleFollowsItsCurve(t *testing.T) {
	m := mixed(79)
	const mu, inv, rounds = 3.3, 0.75, 40000
	counts := [20]float64{}
	for range rounds {
		var draws strings.Builder
		for range 20 {
			draws.WriteString(tryOf(m.next(), byte(m.next()), m.next()))
		}
		got := impl.Sample(wordOfFloat(mu), wordOfFloat(inv), one64, draws.String())
		if got.Status != impl.SampleOk || got.Z < -6 || got.Z >= 14 {
			t.Fatalf("Sample of %q is %v", draws.String(), got)
		}
		counts[got.Z+6]++
	}
	total := 0.0
	weight := func(i int) float64 { return math.Exp(-(float64(i-6) - mu) * (float64(i-6) - mu) * inv * inv / 2) }
	for i := range counts {
		total += weight(i)
	}
	for i, count := range counts {
		if want := rounds * weight(i) / total; math.Abs(count-want) > 5*math.Sqrt(want)+5 {
			t.Errorf("%d came %v times, not about %v", i-6, count, want)
		}
	}
}
