package tests

import (
	"encoding/hex"
	"fmt"
	"regexp"
	"slices"
	"strconv"
	"strings"
	"testing"

	"loop.example/s01330/impl"
)

var (
	formatNames = []string{impl.F32: "f32", impl.F64: "f64"}
	modeNames   = []string{impl.REven: "even", impl.RAway: "away", impl.RZero: "zero", impl.RUp: "up", impl.RDown: "down"}
	kindNames   = []string{impl.I32: "i32", impl.I64: "i64", impl.U32: "u32", impl.U64: "u64"}
)

func checkRun(t *testing.T, script string, want string) {
	t.Helper()
	if got := impl.Run(script); got != want {
		t.Errorf("Run(%.200q) of %d bytes is %.200q, not %.200q", script, len(script), got, want)
	}
}

// checkLine asks for a line with and without a newline, and among others.
func checkLine(t *testing.T, line string, want string) {
	t.Helper()
	checkRun(t, line+"\n", want+"\n")
	if line != "" {
		checkRun(t, line, want+"\n")
	}
	checkRun(t, "min f32 2 1\n"+line+"\nmax f32 2 1", "1 0\n"+want+"\n2 0\n")
}

func checkRejected(t *testing.T, line string) {
	t.Helper()
	checkLine(t, line, "rejected")
}

func TestRunTheExample(t *testing.T) {
	script := `add f32 even 3f800000 3f800000
mul f32 up 1 3f000000
div f32 even 3f800000 0
rem f32 40a00000 40400000
toint f32 away u32 40200000
poly 1 1 2 3 4
add f32 even 1
`
	want := `40000000 0
1 24
7f800000 2
bf800000 0
3 16
-5 10
rejected
`
	checkRun(t, script, want)
	checkRun(t, strings.TrimSuffix(script, "\n"), want)
}

func TestRunByHand(t *testing.T) {
	cases := [][2]string{
		{"add f64 even 3ff0000000000000 3ff0000000000000", "4000000000000000 0"},
		{"add f32 up 3f800000 1", "3f800001 16"},
		{"add f32 down 3f800000 bf800000", "80000000 0"},
		{"add f32 even 3f800000 7f800001", "7fc00000 1"},
		{"add f32 even 7fffffff 0", "7fc00000 0"},
		{"sub f32 even 3f800000 3f800000", "0 0"},
		{"sub f64 down 0 0", "8000000000000000 0"},
		{"sub f64 zero 4000000000000000 3ff0000000000000", "3ff0000000000000 0"},
		{"mul f32 even 7f7fffff 40000000", "7f800000 20"},
		{"mul f32 zero 7f7fffff 40000000", "7f7fffff 20"},
		{"fma f32 even 40000000 40400000 3f800000", "40e00000 0"},
		{"fma f64 even 0 7ff0000000000000 7ff8000000000000", "7ff8000000000000 1"},
		{"div f32 even 3f800000 40400000", "3eaaaaab 16"},
		{"div f32 zero 3f800000 40400000", "3eaaaaaa 16"},
		{"div f64 even 0 0", "7ff8000000000000 1"},
		{"sqrt f32 even 40800000", "40000000 0"},
		{"sqrt f64 up 4000000000000000", "3ff6a09e667f3bcd 16"},
		{"sqrt f32 even bf800000", "7fc00000 1"},
		{"rem f64 4014000000000000 4008000000000000", "bff0000000000000 0"},
		{"int f32 even i32 ffffffffffffffff", "bf800000 0"},
		{"int f32 away u64 ffffffffffffffff", "5f800000 16"},
		{"int f64 zero i64 8000000000000000", "c3e0000000000000 0"},
		{"toint f32 even i32 c0200000", "fffffffffffffffe 16"},
		{"toint f32 down i32 c0200000", "fffffffffffffffd 16"},
		{"toint f64 even u32 bff0000000000000", "0 1"},
		{"toint f64 even u64 7ff0000000000000", "ffffffffffffffff 1"},
		{"convert f32 f64 even 3f800000", "3ff0000000000000 0"},
		{"convert f64 f32 up 3ff0000000000001", "3f800001 16"},
		{"convert f64 f64 up 3ff0000000000001", "3ff0000000000001 0"},
		{"convert f32 f32 zero 7f800001", "7fc00000 1"},
		{"round f32 even 40200000", "40000000 16"},
		{"round f32 away 40200000", "40400000 16"},
		{"round f64 down bfe0000000000000", "bff0000000000000 16"},
		{"round f64 zero bfe0000000000000", "8000000000000000 16"},
		{"round f64 zero c000000000000000", "c000000000000000 0"},
		{"min f32 0 80000000", "80000000 0"},
		{"max f32 80000000 0", "0 0"},
		{"min f64 7ff8000000000000 0", "7ff8000000000000 0"},
		{"max f64 7ff0000000000001 0", "7ff8000000000000 1"},
		{"compare f32 0 3f800000", "-1 0"},
		{"compare f32 80000000 0", "0 0"},
		{"compare f64 3ff0000000000000 0", "1 0"},
		{"compare f32 0 7fc00000", "2 0"},
		{"compare f32 7f800001 0", "2 1"},
		{"signal f32 3f800000 0", "1 0"},
		{"signal f32 0 7fc00000", "2 1"},
		{"poly 1 0 1 0 1", "-1 0"},
		{"poly 2 1 2 3 4 5 6 7 8", "-56 -36 2 60"},
		{"sample 401c000000000000 3ff0000000000000 3ff0000000000000 ffffffffffffffff000000000000000000", "0 7 17 1"},
		{"sample c01c000000000000 3ff0000000000000 3ff0000000000000 ffffffffffffffff01000000000000000000", "0 -6 17 1"},
		{"sample 0 3fe0000000000000 1 ffffffffffffffff00000000000000000012", "2 0 17 1"},
	}
	for _, c := range cases {
		checkLine(t, c[0], c[1])
	}
}

func TestRunOfScriptsOfFewBytes(t *testing.T) {
	checkRun(t, "", "")
	checkRun(t, "\n", "rejected\n")
	checkRun(t, "\n\n", "rejected\nrejected\n")
	checkRun(t, " ", "rejected\n")
	checkRun(t, "\t\n", "rejected\n")
	checkRun(t, "\x00", "rejected\n")
	checkRun(t, "\xff\n", "rejected\n")
	const line, answer = "min f32 1 2", "1 0\n"
	checkRun(t, line, answer)
	checkRun(t, line+"\n", answer)
	checkRun(t, line+"\n\n", answer+"rejected\n")
	checkRun(t, line+"\n\n\n", answer+"rejected\nrejected\n")
	checkRun(t, "\n"+line, "rejected\n"+answer)
	checkRun(t, line+"\n\n"+line, answer+"rejected\n"+answer)
	checkRun(t, line+"\n"+line, answer+answer)
	checkRun(t, line+"\n ", answer+"rejected\n")
	checkRun(t, line+"\r\n"+line+"\n", "rejected\n"+answer)
	checkRun(t, line+"\r"+line+"\n", "rejected\n")
	checkRun(t, line+"\u2028"+line, "rejected\n")
}

func TestRunOfLongScripts(t *testing.T) {
	const tooLong = "too long\n"
	const line, answer = "min f32 1 2\n", "1 0\n"
	// As many bytes as may be, and one more, whatever it is
	filled := strings.Repeat(line, 900)
	filled += strings.Repeat("x", impl.MaxScript-len(filled))
	answers := strings.Repeat(answer, 900) + "rejected\n"
	checkRun(t, filled, answers)
	checkRun(t, filled[:len(filled)-1]+"\n", answers)
	checkRun(t, filled[:len(filled)-2]+"\n\n", answers+"rejected\n")
	checkRun(t, filled+"\n", tooLong)
	checkRun(t, filled+"x", tooLong)
	checkRun(t, filled[1:]+"\n", "rejected\n"+strings.Repeat(answer, 899)+"rejected\n")
	checkRun(t, strings.Repeat("x", impl.MaxScript), "rejected\n")
	checkRun(t, strings.Repeat(" ", impl.MaxScript), "rejected\n")
	checkRun(t, strings.Repeat("x", impl.MaxScript+1), tooLong)
	// Bytes are counted, not signs.
	checkRun(t, strings.Repeat("é", impl.MaxScript/2), "rejected\n")
	checkRun(t, strings.Repeat("é", impl.MaxScript/2+1), tooLong)
	// As many lines as may be, and one more
	lines := strings.Repeat(line, impl.MaxLines)
	answers = strings.Repeat(answer, impl.MaxLines)
	checkRun(t, lines, answers)
	checkRun(t, strings.TrimSuffix(lines, "\n"), answers)
	checkRun(t, lines+"\n", tooLong)
	checkRun(t, lines+" ", tooLong)
	checkRun(t, lines+"min f32 1 2", tooLong)
	checkRun(t, lines[len(line):]+"\n", strings.Repeat(answer, impl.MaxLines-1)+"rejected\n")
	checkRun(t, strings.Repeat("\n", impl.MaxLines), strings.Repeat("rejected\n", impl.MaxLines))
	checkRun(t, strings.Repeat("\n", impl.MaxLines-1)+"x", strings.Repeat("rejected\n", impl.MaxLines))
	checkRun(t, strings.Repeat("\n", impl.MaxLines)+"x", tooLong)
	checkRun(t, strings.Repeat("\n", impl.MaxLines+1), tooLong)
	checkRun(t, strings.Repeat("\n", impl.MaxScript+1), tooLong)
}

// A shape is how a kind of line looks, and what the functions say to the parts of one.
type shape struct {
	pattern *regexp.Regexp
	say     func(parts []string) string
}

func looks(pattern string) *regexp.Regexp {
	return regexp.MustCompile(`\A` + strings.NewReplacer(
		"F", `(f32|f64)`,
		"M", `(even|away|zero|up|down)`,
		"K", `(i32|i64|u32|u64)`,
		"W", `([0-9a-f]{1,16})`,
		"N", `(?:0|-?[1-9][0-9]*)`,
		"H", `((?:[0-9a-f][0-9a-f])+)`,
	).Replace(pattern) + `\z`)
}

func wordIn(part string) uint64 {
	w, err := strconv.ParseUint(part, 16, 64)
	if err != nil {
		panic(err)
	}
	return w
}

// wordsIn are the words of parts, and whether all of them fit the format.
func wordsIn(f int, parts []string) ([]uint64, bool) {
	var out []uint64
	fit := true
	for _, part := range parts {
		w := wordIn(part)
		out = append(out, w)
		fit = fit && (f == impl.F64 || w < 1<<32)
	}
	return out, fit
}

func said(fit bool, answer func() impl.Result) string {
	if !fit {
		return "rejected"
	}
	r := answer()
	return fmt.Sprintf("%x %d", r.Bits, r.Flags)
}

// inMode is a shape F M and words.
func inMode(pattern string, of func(f int, mode int, ws []uint64) impl.Result) shape {
	return shape{looks(pattern), func(parts []string) string {
		f, mode := slices.Index(formatNames, parts[0]), slices.Index(modeNames, parts[1])
		ws, fit := wordsIn(f, parts[2:])
		return said(fit, func() impl.Result { return of(f, mode, ws) })
	}}
}

// inFormat is a shape F and two words.
func inFormat(pattern string, of func(f int, a uint64, b uint64) impl.Result) shape {
	return shape{looks(pattern), func(parts []string) string {
		f := slices.Index(formatNames, parts[0])
		ws, fit := wordsIn(f, parts[1:])
		return said(fit, func() impl.Result { return of(f, ws[0], ws[1]) })
	}}
}

func comparing(pattern string, signaling bool) shape {
	return shape{looks(pattern), func(parts []string) string {
		f := slices.Index(formatNames, parts[0])
		ws, fit := wordsIn(f, parts[1:])
		if !fit {
			return "rejected"
		}
		return strings.Trim(fmt.Sprint(impl.Compare(f, ws[0], ws[1], signaling)), "[]")
	}}
}

func ofIntegers(pattern string, of func(f int, mode int, kind int, w uint64) (bool, impl.Result)) shape {
	return shape{looks(pattern), func(parts []string) string {
		f, mode := slices.Index(formatNames, parts[0]), slices.Index(modeNames, parts[1])
		fit, r := of(f, mode, slices.Index(kindNames, parts[2]), wordIn(parts[3]))
		return said(fit, func() impl.Result { return r })
	}}
}

func fromInteger(f int, mode int, kind int, w uint64) (bool, impl.Result) {
	_, fits := integerOf(kind, w)
	return fits, impl.FromInt(f, mode, kind, w)
}

func toInteger(f int, mode int, kind int, w uint64) (bool, impl.Result) {
	return f == impl.F64 || w < 1<<32, impl.ToInt(f, mode, kind, w)
}

func converting(parts []string) string {
	from, to := slices.Index(formatNames, parts[0]), slices.Index(formatNames, parts[1])
	ws, fit := wordsIn(from, parts[3:])
	return said(fit, func() impl.Result { return impl.Convert(from, to, slices.Index(modeNames, parts[2]), ws[0]) })
}

func multiplying(parts []string) string {
	k, _ := strconv.Atoi(parts[0])
	var numbers []int
	for _, part := range strings.Fields(parts[1]) {
		x, err := strconv.Atoi(part)
		if err != nil || x < -2047 || x > 2047 {
			return "rejected"
		}
		numbers = append(numbers, x)
	}
	n := 1 << k
	if len(numbers) != 2*n {
		return "rejected"
	}
	return strings.Trim(fmt.Sprint(overIntegers(numbers[:n], numbers[n:])), "[]")
}

func sampling(parts []string) string {
	draws, err := hex.DecodeString(parts[3])
	if err != nil {
		panic(err)
	}
	d := impl.Sample(wordIn(parts[0]), wordIn(parts[1]), wordIn(parts[2]), string(draws))
	return fmt.Sprintf("%d %d %d %d", d.Status, d.Z, d.Used, d.Tries)
}

func allShapes() []shape {
	return []shape{
		inMode("add F M W W", func(f, mode int, ws []uint64) impl.Result { return impl.Add(f, mode, ws[0], ws[1]) }),
		inMode("sub F M W W", func(f, mode int, ws []uint64) impl.Result { return impl.Sub(f, mode, ws[0], ws[1]) }),
		inMode("mul F M W W", func(f, mode int, ws []uint64) impl.Result { return impl.Mul(f, mode, ws[0], ws[1]) }),
		inMode("fma F M W W W", func(f, mode int, ws []uint64) impl.Result { return impl.Fma(f, mode, ws[0], ws[1], ws[2]) }),
		inMode("div F M W W", func(f, mode int, ws []uint64) impl.Result { return impl.Div(f, mode, ws[0], ws[1]) }),
		inMode("sqrt F M W", func(f, mode int, ws []uint64) impl.Result { return impl.Sqrt(f, mode, ws[0]) }),
		inFormat("rem F W W", impl.Rem),
		ofIntegers("int F M K W", fromInteger),
		ofIntegers("toint F M K W", toInteger),
		{looks("convert F F M W"), converting},
		inMode("round F M W", func(f, mode int, ws []uint64) impl.Result { return impl.RoundInt(f, mode, ws[0], true) }),
		inFormat("min F W W", impl.Minimum),
		inFormat("max F W W", impl.Maximum),
		comparing("compare F W W", false),
		comparing("signal F W W", true),
		{looks("poly ([1-6])((?: N)*)"), multiplying},
		{looks("sample W W W H"), sampling},
	}
}

var shapes = allShapes()

// runByWords is what the functions say to the line, if it is one.
func runByWords(line string) string {
	for _, s := range shapes {
		if found := s.pattern.FindStringSubmatch(line); found != nil {
			return s.say(found[1:])
		}
	}
	return "rejected"
}

// checkScripts asks for the lines one by one and all together, as many at a time as may be.
func checkScripts(t *testing.T, lines []string) {
	t.Helper()
	for len(lines) > 0 {
		var script, want strings.Builder
		n := 0
		for ; n < min(len(lines), 500) && script.Len()+len(lines[n]) < impl.MaxScript; n++ {
			answer := runByWords(lines[n])
			checkRun(t, lines[n]+"\n", answer+"\n")
			script.WriteString(lines[n] + "\n")
			want.WriteString(answer + "\n")
		}
		checkRun(t, script.String(), want.String())
		if t.Failed() {
			return
		}
		lines = lines[n:]
	}
}

// written is a word in hexadecimal, now and then with leading zeros.
func (m *mixed) written(w uint64) string {
	text := strconv.FormatUint(w, 16)
	if m.next()%4 == 0 {
		text = strings.Repeat("0", int(m.next()%uint64(17-len(text)))) + text
	}
	return text
}

// operands are so many words in hexadecimal of which most fit the format.
func (m *mixed) operands(f int, n int) string {
	var out []string
	for range n {
		w := m.nearOne(f)
		switch m.next() % 6 {
		case 0:
			w = m.number(f)
		case 1:
			special := append(edgeNaNs(f), 0, turned(f, 0), infinityOf(f, 0), infinityOf(f, 1), 1, infinityOf(f, 0)-1)
			w = special[m.next()%uint64(len(special))]
		case 2:
			if m.next()%3 == 0 {
				w = m.word()
			}
		}
		out = append(out, m.written(w))
	}
	return strings.Join(out, " ")
}

// linesOfEachKind are lines of every kind in both formats, all ways of rounding and kinds of integers.
func linesOfEachKind(m *mixed, rounds int) []string {
	var out []string
	for f, F := range formatNames {
		for _, M := range modeNames {
			for range rounds {
				out = append(out,
					"add "+F+" "+M+" "+m.operands(f, 2), "sub "+F+" "+M+" "+m.operands(f, 2),
					"mul "+F+" "+M+" "+m.operands(f, 2), "div "+F+" "+M+" "+m.operands(f, 2),
					"fma "+F+" "+M+" "+m.operands(f, 3), "sqrt "+F+" "+M+" "+m.operands(f, 1),
					"convert "+F+" f32 "+M+" "+m.operands(f, 1), "convert "+F+" f64 "+M+" "+m.operands(f, 1),
					"round "+F+" "+M+" "+m.operands(f, 1), "round "+F+" "+M+" "+m.written(m.nearWhole(f)),
				)
				for kind, K := range kindNames {
					out = append(out,
						"int "+F+" "+M+" "+K+" "+m.written(m.integers(kind, 1)[0]), "int "+F+" "+M+" "+K+" "+m.written(m.word()),
						"toint "+F+" "+M+" "+K+" "+m.operands(f, 1), "toint "+F+" "+M+" "+K+" "+m.written(m.nearWhole(f)),
					)
				}
			}
		}
		for range 5 * rounds {
			a, b := m.operands(f, 2), m.operands(f, 2)
			out = append(out, "rem "+F+" "+a, "min "+F+" "+a, "max "+F+" "+a, "compare "+F+" "+b, "signal "+F+" "+b)
		}
	}
	for range 5 * rounds {
		w := m.wager()
		out = append(out,
			polyLine(1+int(m.next()%3), func(int) int { return int(m.next()%4095) - 2047 }),
			fmt.Sprintf("sample %s %x %x %x", m.written(w.mu), w.inv, w.scale, m.draws(1+int(m.next()%4))),
			fmt.Sprintf("sample %x %x %x %x", w.mu, w.inv, w.scale, m.draws(2)[:1+m.next()%34]),
			fmt.Sprintf("sample %x %x %x %x", m.word(), m.nearOne(impl.F64), m.nearOne(impl.F64), "17"),
		)
	}
	return out
}

func polyLine(k int, maker func(i int) int) string {
	return fmt.Sprint("poly ", k, " ", strings.Trim(fmt.Sprint(coefficients(2<<k, maker)), "[]"))
}

// Promise 15.
func TestRunSaysWhatTheFunctionsSay(t *testing.T) {
	m := mixed(81)
	checkScripts(t, linesOfEachKind(&m, 40))
}

func TestRunOfEdgeWords(t *testing.T) {
	var lines []string
	for f, F := range formatNames {
		words := append(edgeNaNs(f), 0, 1, turned(f, 0), turned(f, 1), infinityOf(f, 0), infinityOf(f, 1), infinityOf(f, 0)-1)
		for i, a := range words {
			b := words[(i*5+3)%len(words)]
			for _, M := range modeNames {
				for _, name := range []string{"add", "sub", "mul", "div"} {
					lines = append(lines, fmt.Sprintf("%s %s %s %x %x", name, F, M, a, b))
				}
				lines = append(lines,
					fmt.Sprintf("fma %s %s %x %x %x", F, M, a, b, a), fmt.Sprintf("sqrt %s %s %x", F, M, a),
					fmt.Sprintf("round %s %s %x", F, M, a), fmt.Sprintf("convert %s f32 %s %x", F, M, a),
				)
			}
			for _, name := range []string{"rem", "min", "max", "compare", "signal"} {
				lines = append(lines, fmt.Sprintf("%s %s %x %x", name, F, a, b), fmt.Sprintf("%s %s %x %x", name, F, b, a))
			}
		}
	}
	checkScripts(t, lines)
}

// someGoodLines are one line of each kind in each format.
func someGoodLines() []string {
	out := []string{"poly 1 1 2 3 4", "poly 2 1 -2 3 -4 5 -6 7 0", "sample 0 3ff0000000000000 3fe0000000000000 00ff"}
	for _, F := range formatNames {
		out = append(out,
			"add "+F+" even 3f800000 a", "sub "+F+" away b 3f800000", "mul "+F+" zero 3f800000 c", "div "+F+" up 3f800000 3",
			"fma "+F+" down 3f800000 3 4", "sqrt "+F+" even 3f800000", "rem "+F+" 3f800000 3f000000", "int "+F+" even i32 1f",
			"toint "+F+" away u64 3f800000", "convert "+F+" f32 zero 3f800000", "convert "+F+" f64 zero 3f800000",
			"round "+F+" up 3f800001", "min "+F+" 1 2", "max "+F+" 1 2", "compare "+F+" 1 2", "signal "+F+" 1 2",
		)
	}
	return out
}

// wrongLines are what is no line any more once a good one is changed at a place: a part missing, empty, doubled or in
// upper case, other signs for a space, and something at either end.
func wrongLines(line string) []string {
	out := []string{
		" " + line, line + " ", "\t" + line, line + "\t", line + "\r", line + "\x00", "\ufeff" + line, line + " 1", line + " 1 1",
		line + " f32", line + " even", strings.ToUpper(line), line + "x", line + "G", line + "é", "é" + line, line + ".", line + ",1",
	}
	parts := strings.Split(line, " ")
	for i := range parts {
		with := func(instead ...string) {
			changed := slices.Replace(slices.Clone(parts), i, i+1, instead...)
			out = append(out, strings.Join(changed, " "))
		}
		with()
		with("")
		with(parts[i], parts[i])
		with(parts[i], "")
		with("0x" + parts[i])
		with("-" + parts[i])
		with("+" + parts[i])
		with(parts[i] + "_0")
		with("_" + parts[i])
		with(parts[i] + "\u0660")
		with("\uff11" + parts[i])
		with(parts[i] + "\xff")
		with("none")
		if upper := strings.ToUpper(parts[i]); upper != parts[i] {
			with(upper)
		}
	}
	for i := range line {
		if line[i] == ' ' {
			for _, other := range []string{"", "\t", "\t ", "\u00a0", "\u3000", "  ", " \t", "\v", ",", "\x00"} {
				out = append(out, line[:i]+other+line[i+1:])
			}
		}
	}
	return out
}

func TestRunOfWrongLines(t *testing.T) {
	good, bad := 0, 0
	for _, line := range someGoodLines() {
		if runByWords(line) == "rejected" {
			t.Errorf("%q should be a line", line)
		}
		checkScripts(t, wrongLines(line))
		for _, wrong := range wrongLines(line) {
			if runByWords(wrong) == "rejected" {
				bad++
			} else {
				good++
			}
		}
	}
	// Some words next to each other make a word, and a minus sign makes a number: few of all.
	if bad < 3000 || good > 20+bad/20 {
		t.Errorf("%d of the lines are good and %d are not", good, bad)
	}
}

// Each sign is put at each place of good lines, and each place is left out.
func TestRunOfChangedLines(t *testing.T) {
	m := mixed(82)
	signs := []string{
		"", " ", "\t", "0", "1", "9", "a", "f", "g", "A", "F", "-", "+", "x", ".", "/", ":", "`", "@", "é", "\xc3", "\u0663", "２",
	}
	var lines []string
	for _, line := range someGoodLines() {
		for i := range len(line) + 1 {
			for _, sign := range signs {
				lines = append(lines, line[:i]+sign+line[i:])
				if i < len(line) && m.next()%3 == 0 {
					lines = append(lines, line[:i]+sign+line[i+1:])
				}
			}
		}
	}
	checkScripts(t, lines)
}

func TestRunOfFirstWords(t *testing.T) {
	for _, line := range []string{
		"", "add", "poly", "sample", "min", "Add f32 even 1 2", "ADD f32 even 1 2", "addf32 even 1 2", "adds f32 even 1 2",
		"ad f32 even 1 2", "fromint f32 even i32 1", "min f32", "roundint f32 even 1", "minimum f32 1 2", "base 1", "decay 1",
		"roots 1", "nextup f32 1", "poly 1", "poly 1 ", "poly  1 1 2 3 4", "sample 0", "rem f32 even 1 2", "min f32 even 1 2",
		"compare f32 even 1 2", "signal f32 1", "sqrt f32 1", "round f32 1", "int f32 i32 1", "int even f32 i32 1",
		"int f32 i32 even 1", "toint i32 f32 even 1", "convert f32 even f64 1", "convert f32 even 1", "add even f32 1 2",
		"add f32 even even 1", "add f32 1 even 2", "add f32 f32 1 2", "sqrt f32 even even",
	} {
		checkRejected(t, line)
	}
}

func TestRunOfNames(t *testing.T) {
	for _, no := range []string{"f16", "f128", "f", "f3", "f322", "F32", "32", "binary32", "0", "1", "", "f 32", "f32\t"} {
		checkRejected(t, "add "+no+" even 1 2")
		checkRejected(t, "min "+no+" 1 2")
		checkRejected(t, "convert "+no+" f32 even 1")
		checkRejected(t, "convert f32 "+no+" even 1")
	}
	for _, no := range []string{"Even", "EVEN", "evens", "eve", "nearest", "odd", "none", "0", "1", "", "up ", "Down"} {
		checkRejected(t, "add f32 "+no+" 1 2")
		checkRejected(t, "int f32 "+no+" i32 1")
		checkRejected(t, "convert f32 f64 "+no+" 1")
	}
	for _, no := range []string{"i8", "i16", "u8", "u16", "i", "u", "int", "I32", "U64", "i128", "f32", "even", "", "0"} {
		checkRejected(t, "int f32 even "+no+" 1")
		checkRejected(t, "toint f32 even "+no+" 1")
	}
}

func TestRunOfWords(t *testing.T) {
	for n := 1; n <= 16; n++ {
		checkLine(t, "max f64 0 "+strings.Repeat("0", n-1)+"1", "1 0")
		checkLine(t, "max f64 "+strings.Repeat("0", n)+" 0", "0 0")
	}
	for n := 17; n < 40; n++ {
		checkRejected(t, "max f64 0 "+strings.Repeat("0", n-1)+"1")
		checkRejected(t, "max f64 "+strings.Repeat("0", n)+" 0")
		checkRejected(t, "max f64 0 "+strings.Repeat("f", n))
		checkRejected(t, "max f64 0 1"+strings.Repeat("0", n-1))
	}
	checkLine(t, "max f64 0 123456789abcdef", "123456789abcdef 0")
	checkLine(t, "max f64 0 0fedcba987654321", "fedcba987654321 0")
	for _, no := range []string{
		"", "g", "A", "1A", "F", "0x1", "1h", "-1", "+1", "1.0", "1e+1", "1_0", " ", "\t1", "1\t", "１", "٣", "é", "\xff", "1\x00",
	} {
		checkRejected(t, "max f64 0 "+no)
		checkRejected(t, "max f64 "+no+" 0")
		checkRejected(t, "sample "+no+" 3ff0000000000000 3ff0000000000000 00")
		checkRejected(t, "int f64 even i64 "+no)
	}
}

func TestRunOfWordsThatDoNotFitTheFormat(t *testing.T) {
	forms := []string{
		"add F even W 1", "add F even 1 W", "sub F up W 1", "sub F up 1 W", "mul F down W 1", "mul F down 1 W", "div F zero W 1",
		"div F zero 1 W", "fma F even W 1 1", "fma F even 1 W 1", "fma F even 1 1 W", "sqrt F away W", "rem F W 1", "rem F 1 W",
		"toint F even i32 W", "toint F even u64 W", "convert F f32 even W", "convert F f64 even W", "round F even W", "min F W 1",
		"min F 1 W", "max F W 1", "max F 1 W", "compare F W 1", "compare F 1 W", "signal F W 1", "signal F 1 W",
	}
	for _, form := range forms {
		line := func(f string, w uint64) string {
			return strings.NewReplacer("F", f, "W", fmt.Sprintf("%x", w)).Replace(form)
		}
		for _, w := range append([]uint64{1 << 32, 1<<32 + 1, 1 << 33}, wordsAbove32...) {
			checkRejected(t, line("f32", w))
			if runByWords(line("f64", w)) == "rejected" {
				t.Errorf("%q is a line", line("f64", w))
			}
			checkLine(t, line("f64", w), runByWords(line("f64", w)))
		}
		checkLine(t, line("f32", 1<<32-1), runByWords(line("f32", 1<<32-1)))
	}
	// Only the first format of convert is that of the word; of int it is none.
	checkLine(t, "convert f64 f32 even 3ff0000000000000", "3f800000 0")
	checkRejected(t, "convert f32 f64 even 3ff0000000000000")
	checkLine(t, "int f32 even i64 100000000", "4f800000 0")
	checkLine(t, "int f32 even u64 8000000000000000", "5f000000 0")
}

func TestRunOfIntegers(t *testing.T) {
	fitting := map[string][]string{
		"i32": {"0", "1", "7fffffff", "ffffffff80000000", "ffffffffffffffff", "000000007fffffff"},
		"i64": {"0", "1", "80000000", "7fffffffffffffff", "8000000000000000", "ffffffffffffffff"},
		"u32": {"0", "1", "80000000", "ffffffff", "00000000ffffffff"},
		"u64": {"0", "1", "100000000", "8000000000000000", "ffffffffffffffff"},
	}
	others := map[string][]string{
		"i32": {"80000000", "ffffffff", "100000000", "ffffffff7fffffff", "7fffffffffffffff", "8000000000000000", "fffffffeffffffff"},
		"u32": {"100000000", "1ffffffff", "ffffffffffffffff", "ffffffff80000000", "8000000000000000"},
	}
	for _, F := range formatNames {
		for _, M := range modeNames {
			for _, K := range kindNames {
				for _, w := range fitting[K] {
					line := "int " + F + " " + M + " " + K + " " + w
					if runByWords(line) == "rejected" {
						t.Errorf("%q is a line", line)
					}
					checkLine(t, line, runByWords(line))
				}
				for _, w := range others[K] {
					checkRejected(t, "int "+F+" "+M+" "+K+" "+w)
				}
			}
		}
	}
}

func TestRunOfPolynomials(t *testing.T) {
	for k := 1; k <= impl.MaxLog; k++ {
		for _, maker := range []func(i int) int{
			func(int) int { return 0 },
			func(int) int { return 2047 },
			func(int) int { return -2047 },
			func(i int) int { return 2047 * alternating(i, 1) },
			func(i int) int { return i*37%4095 - 2047 },
		} {
			line := polyLine(k, maker)
			fg := coefficients(2<<k, maker)
			want := strings.Trim(fmt.Sprint(overIntegers(fg[:1<<k], fg[1<<k:])), "[]")
			checkLine(t, line, want)
			checkRejected(t, line+" 0")
			checkRejected(t, line+" ")
			checkRejected(t, line[:strings.LastIndex(line, " ")])
			checkRejected(t, line+" 0 0")
		}
	}
	zeros := func(n int) string { return strings.Repeat(" 0", n) }
	for _, k := range []string{"0", "7", "8", "-1", "63", "64", "01", "+1", "1.0", "a", "", "18446744073709551617", "one", "１"} {
		for _, n := range []int{0, 1, 2, 4, 8, 128, 256} {
			checkRejected(t, "poly "+k+zeros(n))
		}
	}
	checkRejected(t, "poly 0 0 0")
	checkRejected(t, "poly 7"+zeros(256))
	checkRejected(t, "poly 2"+zeros(4))
	checkRejected(t, "poly 1"+zeros(8))
}

func TestRunOfNumbers(t *testing.T) {
	for _, number := range []string{"0", "1", "-1", "9", "10", "-10", "2046", "2047", "-2047", "1000", "-2000"} {
		x, _ := strconv.Atoi(number)
		checkLine(t, "poly 1 "+number+" 0 1 0", number+" 0")
		checkLine(t, "poly 1 0 1 0 "+number, fmt.Sprint(-x)+" 0")
	}
	for _, no := range []string{
		"2048", "-2048", "2049", "9999", "10000", "-10000", "01", "00", "-01", "-0", "-00", "+1", "+0", "--1", "-", "", "1-", "1.",
		"1.0", "0x1", "a", "f", "1f", "1e3", "1_0", "１", "٣", "18446744073709551616", "18446744073709551617",
		"-18446744073709551615", "9223372036854775808", "4294967296", "4294967297", "65536", "00000000000000001", "\xff", " 1",
		"1 ", "\t1", strings.Repeat("1", 1000),
	} {
		checkRejected(t, "poly 1 "+no+" 2 3 4")
		checkRejected(t, "poly 1 1 "+no+" 3 4")
		checkRejected(t, "poly 1 1 2 "+no+" 4")
		checkRejected(t, "poly 1 1 2 3 "+no)
	}
}

func TestRunOfSamples(t *testing.T) {
	const good = "sample 4014000000000000 3ff0000000000000 3ff0000000000000 "
	const accepted = "ffffffffffffffff00ffffffffffffffff"
	checkLine(t, good+accepted, "0 5 17 1")
	checkLine(t, good+accepted+"00", "0 5 17 1")
	checkLine(t, good+accepted+accepted, "0 5 17 1")
	checkLine(t, good+accepted[:32], "2 0 0 0")
	checkLine(t, good+"00", "2 0 0 0")
	refusing := strings.Repeat("00", 17)
	checkLine(t, good+refusing+accepted, "0 5 34 2")
	checkLine(t, good+refusing+refusing+"12", "2 0 34 2")
	// The first of two digits is the higher one: c is 10 and even, or 01 and odd.
	checkLine(t, good+strings.Repeat("f", 16)+"10"+strings.Repeat("0", 16), "0 5 17 1")
	checkLine(t, good+strings.Repeat("f", 16)+"01"+strings.Repeat("0", 16), "0 6 17 1")
	// Bytes stand from the lowest on: 1234567890abcdef is a great number, its z0 is 0.
	checkLine(t, good+"1234567890abcdef"+"00"+strings.Repeat("0", 16), "0 5 17 1")
	checkLine(t, good+"efcdab9078563412"+"00"+strings.Repeat("0", 16), "0 2 17 1")
	for n := 1; n < 40; n += 2 {
		checkRejected(t, good+strings.Repeat("0", n))
		checkRejected(t, good+strings.Repeat("f", n))
	}
	for _, no := range []string{
		"", "0", "0g", "g0", "FF", "fF", "0x00", "-0", "+0", " 00", "00 ", "00 00", "0 0", "é", "é0", "0é0", "\xff\xff", "１１",
		"\t0", "0_",
	} {
		checkRejected(t, good+no)
		if no != "" {
			checkRejected(t, good+accepted+no)
			checkRejected(t, good+no+accepted)
		}
	}
	checkRejected(t, strings.TrimSuffix(good, " "))
	// What Sample rejects is a line nevertheless.
	checkLine(t, "sample 0 0 0 00", "1 0 0 0")
	checkLine(t, "sample 7ff8000000000000 3ff0000000000000 3ff0000000000000 "+accepted, "1 0 0 0")
	checkLine(t, "sample 4270000000000001 3ff0000000000000 3ff0000000000000 "+accepted, "1 0 0 0")
	checkLine(t, "sample 4270000000000000 3ff0000000000000 3ff0000000000000 "+accepted, "0 1099511627776 17 1")
	checkLine(t, "sample c270000000000000 3ff0000000000000 3ff0000000000000 "+accepted, "0 -1099511627776 17 1")
	checkLine(t, good+strings.Repeat("00", impl.MaxDraws), "2 0 19992 1176")
	checkLine(t, good+strings.Repeat("00", impl.MaxDraws+1), "1 0 0 0")
	checkRejected(t, good+strings.Repeat("00", impl.MaxDraws)+"0")
	for _, w := range []string{"00000000000000000", "g", "", "3FF0000000000000"} {
		checkRejected(t, "sample "+w+" 3ff0000000000000 3ff0000000000000 00")
		checkRejected(t, "sample 0 "+w+" 3ff0000000000000 00")
		checkRejected(t, "sample 0 3ff0000000000000 "+w+" 00")
	}
}

func TestRunIsLineByLine(t *testing.T) {
	m := mixed(83)
	lines := linesOfEachKind(&m, 4)
	for _, line := range someGoodLines() {
		lines = append(lines, wrongLines(line)[:20]...)
	}
	for range 20 {
		var script, want string
		for range 200 {
			line := lines[m.next()%uint64(len(lines))]
			script += line + "\n"
			want += impl.Run(line + "\n")
		}
		checkRun(t, script, want)
	}
}
