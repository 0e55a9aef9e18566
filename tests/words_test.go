package tests

import (
	"math"
	"math/big"
	"testing"

	"loop.example/s01330/impl"
)

const (
	top = uint64(1) << 63
	all = uint64(math.MaxUint64)
)

// Words at which carries, signs and halves turn.
var edgeWords = []uint64{
	0, 1, 2, 3, 10, 1<<31 - 1, 1 << 31, 1<<32 - 1, 1 << 32, 1<<32 + 1,
	1<<62 - 1, 1 << 62, top - 1, top, top + 1, 0x5555555555555555, 0xaaaaaaaaaaaaaaaa,
	all - 1<<32, all - 2, all - 1, all,
}

// Distances that the document or the size of a word sets apart.
var edgeDistances = []int{
	math.MinInt, -129, -128, -64, -1, 0, 1, 2, 31, 32, 33, 62, 63, 64, 65, 66,
	96, 126, 127, 128, 129, 130, 191, 192, 193, 256, 1 << 32, 1 << 62, math.MaxInt,
}

// mixed is a fixed sequence of words that look random, so that every run tests the same.
type mixed uint64

func (m *mixed) next() uint64 {
	*m += 0x9e3779b97f4a7c15
	z := uint64(*m)
	z = (z ^ z>>30) * 0xbf58476d1ce4e5b9
	z = (z ^ z>>27) * 0x94d049bb133111eb
	return z ^ z>>31
}

// word is as often short as long: plain random words nearly never have zeros at the top.
func (m *mixed) word() uint64 {
	return m.next() >> (m.next() % 64)
}

func (m *mixed) wide() impl.Wide {
	a := impl.Wide{Hi: m.word(), Lo: m.next()}
	switch m.next() % 8 {
	case 0:
		a.Hi = 0
	case 1:
		a.Lo = 0
	case 2:
		a.Hi = ^a.Hi
	}
	return a
}

func edgeWides() []impl.Wide {
	var out []impl.Wide
	for _, hi := range edgeWords {
		for _, lo := range edgeWords {
			out = append(out, impl.Wide{Hi: hi, Lo: lo})
		}
	}
	return out
}

func manyWides(n int) []impl.Wide {
	out := edgeWides()
	m := mixed(1)
	for range n {
		out = append(out, m.wide())
	}
	return out
}

func bigWord(a uint64) *big.Int {
	return new(big.Int).SetUint64(a)
}

func bigWide(a impl.Wide) *big.Int {
	x := bigWord(a.Hi)
	return x.Add(x.Lsh(x, 64), bigWord(a.Lo))
}

func power(n uint) *big.Int {
	return new(big.Int).Lsh(big.NewInt(1), n)
}

// wideOf is x modulo 2^128.
func wideOf(x *big.Int) impl.Wide {
	y := new(big.Int).Mod(x, power(128))
	hi := new(big.Int).Rsh(y, 64)
	lo := new(big.Int).Mod(y, power(64))
	return impl.Wide{Hi: hi.Uint64(), Lo: lo.Uint64()}
}

func checkProduct(t *testing.T, a uint64, b uint64) {
	t.Helper()
	want := new(big.Int).Mul(bigWord(a), bigWord(b))
	if got := impl.MulWide(a, b); bigWide(got).Cmp(want) != 0 {
		t.Errorf("MulWide(%#x, %#x) is %#x, not %#x", a, b, got, wideOf(want))
	}
}

func TestMulWideByHand(t *testing.T) {
	cases := []struct {
		a, b uint64
		want impl.Wide
	}{
		{0, 0, impl.Wide{}},
		{0, all, impl.Wide{}},
		{1, all, impl.Wide{Lo: all}},
		{7, 6, impl.Wide{Lo: 42}},
		{2, top, impl.Wide{Hi: 1}},
		{1<<32 + 1, 1<<32 + 1, impl.Wide{Hi: 1, Lo: 1<<33 + 1}},
		{all, 2, impl.Wide{Hi: 1, Lo: all - 1}},
		{all, all, impl.Wide{Hi: all - 1, Lo: 1}},
	}
	for _, c := range cases {
		if got := impl.MulWide(c.a, c.b); got != c.want {
			t.Errorf("MulWide(%#x, %#x) is %#x, not %#x", c.a, c.b, got, c.want)
		}
	}
}

func TestMulWideIsExact(t *testing.T) {
	for _, a := range edgeWords {
		for _, b := range edgeWords {
			checkProduct(t, a, b)
		}
	}
	m := mixed(2)
	for range 20000 {
		checkProduct(t, m.word(), m.word())
	}
}

func TestAddWideByHand(t *testing.T) {
	greatest := impl.Wide{Hi: all, Lo: all}
	cases := []struct {
		name string
		a, b impl.Wide
		want impl.Wide
		over bool
	}{
		{"no carry", impl.Wide{Hi: 1, Lo: 2}, impl.Wide{Hi: 3, Lo: 4}, impl.Wide{Hi: 4, Lo: 6}, false},
		{"into the upper word", impl.Wide{Hi: 1, Lo: all}, impl.Wide{Hi: 2, Lo: 3}, impl.Wide{Hi: 4, Lo: 2}, false},
		{"into the upper word, which fills", impl.Wide{Hi: all - 1, Lo: all}, impl.Wide{Lo: 1}, impl.Wide{Hi: all}, false},
		{"out of the upper word", impl.Wide{Hi: all, Lo: 5}, impl.Wide{Hi: 2, Lo: 6}, impl.Wide{Hi: 1, Lo: 11}, true},
		{"both", impl.Wide{Hi: all, Lo: all}, impl.Wide{Hi: 2, Lo: 6}, impl.Wide{Hi: 2, Lo: 5}, true},
		{"out by the carry alone", greatest, impl.Wide{Lo: 1}, impl.Wide{}, true},
		{"out by the carry to a full word", greatest, impl.Wide{Hi: all, Lo: 1}, impl.Wide{Hi: all}, true},
		{"greatest twice", greatest, greatest, impl.Wide{Hi: all, Lo: all - 1}, true},
		{"greatest and nothing", greatest, impl.Wide{}, greatest, false},
	}
	for _, c := range cases {
		if got, over := impl.AddWide(c.a, c.b); got != c.want || over != c.over {
			t.Errorf("%s: AddWide(%#x, %#x) is %#x %v, not %#x %v", c.name, c.a, c.b, got, over, c.want, c.over)
		}
	}
}

func TestSubWideByHand(t *testing.T) {
	greatest := impl.Wide{Hi: all, Lo: all}
	cases := []struct {
		name  string
		a, b  impl.Wide
		want  impl.Wide
		under bool
	}{
		{"no borrow", impl.Wide{Hi: 4, Lo: 6}, impl.Wide{Hi: 3, Lo: 2}, impl.Wide{Hi: 1, Lo: 4}, false},
		{"from the upper word", impl.Wide{Hi: 4, Lo: 2}, impl.Wide{Hi: 2, Lo: 3}, impl.Wide{Hi: 1, Lo: all}, false},
		{"from the upper word, which empties", impl.Wide{Hi: 1}, impl.Wide{Lo: 1}, impl.Wide{Lo: all}, false},
		{"out of the upper word", impl.Wide{Hi: 1, Lo: 11}, impl.Wide{Hi: 2, Lo: 6}, impl.Wide{Hi: all, Lo: 5}, true},
		{"both", impl.Wide{Hi: 2, Lo: 5}, impl.Wide{Hi: 4, Lo: 6}, impl.Wide{Hi: all - 2, Lo: all}, true},
		{"out by the borrow alone", impl.Wide{}, impl.Wide{Lo: 1}, greatest, true},
		{"out by the borrow of a full word", impl.Wide{Hi: all}, impl.Wide{Hi: all, Lo: 1}, greatest, true},
		{"nothing from greatest", greatest, impl.Wide{}, greatest, false},
		{"itself", greatest, greatest, impl.Wide{}, false},
		{"greatest from nothing", impl.Wide{}, greatest, impl.Wide{Lo: 1}, true},
	}
	for _, c := range cases {
		if got, under := impl.SubWide(c.a, c.b); got != c.want || under != c.under {
			t.Errorf("%s: SubWide(%#x, %#x) is %#x %v, not %#x %v", c.name, c.a, c.b, got, under, c.want, c.under)
		}
	}
}

func checkSums(t *testing.T, a impl.Wide, b impl.Wide) {
	t.Helper()
	x, y := bigWide(a), bigWide(b)
	sum, over := impl.AddWide(a, b)
	want := new(big.Int).Add(x, y)
	if sum != wideOf(want) || over != (want.Cmp(power(128)) >= 0) {
		t.Errorf("AddWide(%#x, %#x) is %#x %v", a, b, sum, over)
	}
	rest, under := impl.SubWide(a, b)
	want.Sub(x, y)
	if rest != wideOf(want) || under != (want.Sign() < 0) {
		t.Errorf("SubWide(%#x, %#x) is %#x %v", a, b, rest, under)
	}
	if again, wrapped := impl.SubWide(sum, b); again != a || wrapped != over {
		t.Errorf("%#x + %#x - %#x is %#x", a, b, b, again)
	}
}

func TestSumsAreExact(t *testing.T) {
	edges := edgeWides()
	for i := range edges {
		for j := 0; j < len(edges); j += 7 {
			checkSums(t, edges[i], edges[j])
		}
	}
	m := mixed(3)
	for range 20000 {
		a := m.wide()
		checkSums(t, a, m.wide())
		checkSums(t, a, a)
	}
}

func TestShiftLeftByHand(t *testing.T) {
	a := impl.Wide{Hi: 0x8000000000000003, Lo: 0xc000000000000001}
	cases := []struct {
		n    int
		want impl.Wide
	}{
		{math.MinInt, a},
		{-128, a},
		{-1, a},
		{0, a},
		{1, impl.Wide{Hi: 7, Lo: 0x8000000000000002}},
		{63, impl.Wide{Hi: 0xe000000000000000, Lo: top}},
		{64, impl.Wide{Hi: 0xc000000000000001}},
		{65, impl.Wide{Hi: 0x8000000000000002}},
		{127, impl.Wide{Hi: top}},
		{128, impl.Wide{}},
		{129, impl.Wide{}},
		{192, impl.Wide{}},
		{1 << 32, impl.Wide{}},
		{math.MaxInt, impl.Wide{}},
	}
	for _, c := range cases {
		if got := impl.ShiftLeft(a, c.n); got != c.want {
			t.Errorf("ShiftLeft(%#x, %d) is %#x, not %#x", a, c.n, got, c.want)
		}
	}
}

func TestShiftRightByHand(t *testing.T) {
	a := impl.Wide{Hi: 0x8000000000000003, Lo: 0xc000000000000002}
	cases := []struct {
		n    int
		want impl.Wide
		lost bool
	}{
		{math.MinInt, a, false},
		{-128, a, false},
		{-1, a, false},
		{0, a, false},
		{1, impl.Wide{Hi: 0x4000000000000001, Lo: 0xe000000000000001}, false},
		{2, impl.Wide{Hi: 0x2000000000000000, Lo: 0xf000000000000000}, true},
		{63, impl.Wide{Hi: 1, Lo: 7}, true},
		{64, impl.Wide{Lo: 0x8000000000000003}, true},
		{65, impl.Wide{Lo: 0x4000000000000001}, true},
		{127, impl.Wide{Lo: 1}, true},
		{128, impl.Wide{}, true},
		{129, impl.Wide{}, true},
		{192, impl.Wide{}, true},
		{1 << 32, impl.Wide{}, true},
		{math.MaxInt, impl.Wide{}, true},
	}
	for _, c := range cases {
		if got, lost := impl.ShiftRight(a, c.n); got != c.want || lost != c.lost {
			t.Errorf("ShiftRight(%#x, %d) is %#x %v, not %#x %v", a, c.n, got, lost, c.want, c.lost)
		}
	}
}

// For every distance: the lowest bit alone goes, the highest of those that go alone goes, or only bits that stay are set.
func TestShiftRightTellsEveryLostBit(t *testing.T) {
	for n := 1; n <= 130; n++ {
		if _, lost := impl.ShiftRight(impl.Wide{Lo: 1}, n); !lost {
			t.Errorf("by %d: the lowest bit is lost in silence", n)
		}
		highest := wideOf(power(uint(min(n, 128) - 1)))
		if got, lost := impl.ShiftRight(highest, n); got != (impl.Wide{}) || !lost {
			t.Errorf("by %d: %#x gives %#x %v", n, highest, got, lost)
		}
		stay := impl.ShiftLeft(impl.Wide{Hi: all, Lo: all}, n)
		if _, lost := impl.ShiftRight(stay, n); lost {
			t.Errorf("by %d: nothing of %#x is lost", n, stay)
		}
		if got, lost := impl.ShiftRight(impl.Wide{}, n); got != (impl.Wide{}) || lost {
			t.Errorf("by %d: nothing of 0 is lost", n)
		}
	}
}

func checkShifts(t *testing.T, a impl.Wide, n int) {
	t.Helper()
	by := uint(min(max(n, 0), 1000))
	x := bigWide(a)
	if got := impl.ShiftLeft(a, n); got != wideOf(new(big.Int).Lsh(x, by)) {
		t.Errorf("ShiftLeft(%#x, %d) is %#x", a, n, got)
	}
	want := new(big.Int).Rsh(x, by)
	wantLost := new(big.Int).Lsh(want, by).Cmp(x) != 0
	if got, lost := impl.ShiftRight(a, n); got != wideOf(want) || lost != wantLost {
		t.Errorf("ShiftRight(%#x, %d) is %#x %v", a, n, got, lost)
	}
}

func TestShiftsAreExact(t *testing.T) {
	for _, a := range edgeWides() {
		for _, n := range edgeDistances {
			checkShifts(t, a, n)
		}
	}
	m := mixed(4)
	for n := -2; n <= 130; n++ {
		for range 50 {
			checkShifts(t, m.wide(), n)
		}
	}
}

func TestZeros(t *testing.T) {
	cases := []struct {
		a    impl.Wide
		want int
	}{
		{impl.Wide{}, 128},
		{impl.Wide{Lo: 1}, 127},
		{impl.Wide{Lo: 1 << 32}, 95},
		{impl.Wide{Lo: top}, 64},
		{impl.Wide{Lo: all}, 64},
		{impl.Wide{Hi: 1}, 63},
		{impl.Wide{Hi: 1, Lo: all}, 63},
		{impl.Wide{Hi: top}, 0},
		{impl.Wide{Hi: all, Lo: all}, 0},
	}
	for _, c := range cases {
		if got := impl.Zeros(c.a); got != c.want {
			t.Errorf("Zeros(%#x) is %d, not %d", c.a, got, c.want)
		}
	}
	for _, a := range manyWides(5000) {
		if got, want := impl.Zeros(a), 128-bigWide(a).BitLen(); got != want {
			t.Errorf("Zeros(%#x) is %d, not %d", a, got, want)
		}
	}
}

func TestDivWideByHand(t *testing.T) {
	greatest := impl.Wide{Hi: all, Lo: all}
	cases := []struct {
		name string
		a    impl.Wide
		d    uint64
		want impl.Wide
		rest uint64
	}{
		{"by 0", greatest, 0, impl.Wide{}, 0},
		{"0 by 0", impl.Wide{}, 0, impl.Wide{}, 0},
		{"0", impl.Wide{}, 9, impl.Wide{}, 0},
		{"by 1", greatest, 1, greatest, 0},
		{"by itself", impl.Wide{Lo: 9}, 9, impl.Wide{Lo: 1}, 0},
		{"by more", impl.Wide{Lo: 8}, 9, impl.Wide{}, 8},
		{"upper word below d", impl.Wide{Hi: 2}, 3, impl.Wide{Lo: 0xaaaaaaaaaaaaaaaa}, 2},
		{"upper word equal to d", impl.Wide{Hi: 3, Lo: 2}, 3, impl.Wide{Hi: 1}, 2},
		{"upper word above d", impl.Wide{Hi: 4}, 3, impl.Wide{Hi: 1, Lo: 0x5555555555555555}, 1},
		{"by the greatest word", greatest, all, impl.Wide{Hi: 1, Lo: 1}, 0},
		{"the greatest quotient of one word", impl.Wide{Hi: all - 1, Lo: all}, all, impl.Wide{Lo: all}, all - 1},
		{"equal words by the greatest", impl.Wide{Hi: all, Lo: all - 1}, all, impl.Wide{Hi: 1}, all - 1},
		{"by a power of 2", impl.Wide{Hi: 5, Lo: 7}, top, impl.Wide{Lo: 10}, 7},
	}
	for _, c := range cases {
		if got, rest := impl.DivWide(c.a, c.d); got != c.want || rest != c.rest {
			t.Errorf("%s: DivWide(%#x, %#x) is %#x %#x, not %#x %#x", c.name, c.a, c.d, got, rest, c.want, c.rest)
		}
	}
}

func checkQuotient(t *testing.T, a impl.Wide, d uint64) {
	t.Helper()
	quotient, rest := impl.DivWide(a, d)
	if d == 0 {
		if quotient != (impl.Wide{}) || rest != 0 {
			t.Errorf("DivWide(%#x, 0) is %#x %#x", a, quotient, rest)
		}
		return
	}
	again := new(big.Int).Mul(bigWide(quotient), bigWord(d))
	again.Add(again, bigWord(rest))
	if rest >= d || again.Cmp(bigWide(a)) != 0 {
		t.Errorf("DivWide(%#x, %#x) is %#x %#x", a, d, quotient, rest)
	}
}

func TestDivWideIsExact(t *testing.T) {
	for _, a := range edgeWides() {
		for _, d := range edgeWords {
			checkQuotient(t, a, d)
		}
		checkQuotient(t, a, a.Hi-1)
		checkQuotient(t, a, a.Hi)
		checkQuotient(t, a, a.Hi+1)
	}
	m := mixed(5)
	for range 20000 {
		checkQuotient(t, m.wide(), m.word())
	}
}

func TestSqrtWideByHand(t *testing.T) {
	cases := []struct {
		a    impl.Wide
		want uint64
		rest bool
	}{
		{impl.Wide{}, 0, false},
		{impl.Wide{Lo: 1}, 1, false},
		{impl.Wide{Lo: 2}, 1, true},
		{impl.Wide{Lo: 3}, 1, true},
		{impl.Wide{Lo: 4}, 2, false},
		{impl.Wide{Lo: all}, 1<<32 - 1, true},
		{impl.Wide{Hi: 1}, 1 << 32, false},
		{impl.Wide{Hi: 1 << 62}, top, false},
		{impl.Wide{Hi: 1<<62 - 1, Lo: all}, top - 1, true},
		{impl.Wide{Hi: all - 1}, all - 1, true},
		{impl.Wide{Hi: all - 1, Lo: 1}, all, false},
		{impl.Wide{Hi: all - 1, Lo: 2}, all, true},
		{impl.Wide{Hi: all}, all, true},
		{impl.Wide{Hi: all, Lo: all}, all, true},
	}
	for _, c := range cases {
		if got, rest := impl.SqrtWide(c.a); got != c.want || rest != c.rest {
			t.Errorf("SqrtWide(%#x) is %#x %v, not %#x %v", c.a, got, rest, c.want, c.rest)
		}
	}
}

func checkRoot(t *testing.T, a impl.Wide) {
	t.Helper()
	x := bigWide(a)
	want := new(big.Int).Sqrt(x)
	wantRest := new(big.Int).Mul(want, want).Cmp(x) != 0
	if got, rest := impl.SqrtWide(a); bigWord(got).Cmp(want) != 0 || rest != wantRest {
		t.Errorf("SqrtWide(%#x) is %#x %v, not %#x %v", a, got, rest, want, wantRest)
	}
}

func checkRootsNearSquare(t *testing.T, r uint64) {
	t.Helper()
	square := new(big.Int).Mul(bigWord(r), bigWord(r))
	for d := int64(-1); d <= 1; d++ {
		x := new(big.Int).Add(square, big.NewInt(d))
		if x.Sign() >= 0 {
			checkRoot(t, wideOf(x))
		}
	}
}

func TestSqrtWideIsRoundedDown(t *testing.T) {
	for _, a := range manyWides(5000) {
		checkRoot(t, a)
	}
	for _, r := range edgeWords {
		checkRootsNearSquare(t, r)
	}
	m := mixed(6)
	for i := range uint64(2000) {
		checkRootsNearSquare(t, m.next())
		checkRootsNearSquare(t, m.word())
		checkRootsNearSquare(t, all-i)
	}
}
