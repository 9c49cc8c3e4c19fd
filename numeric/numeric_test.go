package numeric

import (
	"math"
	"math/bits"
	"strings"
	"testing"

	"trunnion/api"
	"trunnion/cast"
	"trunnion/chop"
	"trunnion/ints"
	"trunnion/order"
	"trunnion/product"
	"trunnion/quotient"
	"trunnion/radix"
	"trunnion/sign"
	"trunnion/sum"
	"trunnion/whole"
)

// listed: the chapter's list, each name written out, one by one from the first opcode on.
var listed = []struct {
	first int
	names string
}{
	{0x45, "i32.eqz i32.eq i32.ne i32.lt_s i32.lt_u i32.gt_s i32.gt_u i32.le_s i32.le_u i32.ge_s i32.ge_u"},
	{0x50, "i64.eqz i64.eq i64.ne i64.lt_s i64.lt_u i64.gt_s i64.gt_u i64.le_s i64.le_u i64.ge_s i64.ge_u"},
	{0x5b, "f32.eq f32.ne f32.lt f32.gt f32.le f32.ge"},
	{0x61, "f64.eq f64.ne f64.lt f64.gt f64.le f64.ge"},
	{0x67, "i32.clz i32.ctz i32.popcnt i32.add i32.sub i32.mul i32.div_s i32.div_u i32.rem_s i32.rem_u i32.and i32.or i32.xor i32.shl i32.shr_s i32.shr_u i32.rotl i32.rotr"},
	{0x79, "i64.clz i64.ctz i64.popcnt i64.add i64.sub i64.mul i64.div_s i64.div_u i64.rem_s i64.rem_u i64.and i64.or i64.xor i64.shl i64.shr_s i64.shr_u i64.rotl i64.rotr"},
	{0x8b, "f32.abs f32.neg f32.ceil f32.floor f32.trunc f32.nearest f32.sqrt f32.add f32.sub f32.mul f32.div f32.min f32.max f32.copysign"},
	{0x99, "f64.abs f64.neg f64.ceil f64.floor f64.trunc f64.nearest f64.sqrt f64.add f64.sub f64.mul f64.div f64.min f64.max f64.copysign"},
	{0xa7, "i32.wrap_i64 i32.trunc_f32_s i32.trunc_f32_u i32.trunc_f64_s i32.trunc_f64_u i64.extend_i32_s i64.extend_i32_u i64.trunc_f32_s i64.trunc_f32_u i64.trunc_f64_s i64.trunc_f64_u f32.convert_i32_s f32.convert_i32_u f32.convert_i64_s f32.convert_i64_u f32.demote_f64 f64.convert_i32_s f64.convert_i32_u f64.convert_i64_s f64.convert_i64_u f64.promote_f32 i32.reinterpret_f32 i64.reinterpret_f64 f32.reinterpret_i32 f64.reinterpret_i64"},
	{0xfc00, "i32.trunc_sat_f32_s i32.trunc_sat_f32_u i32.trunc_sat_f64_s i32.trunc_sat_f64_u i64.trunc_sat_f32_s i64.trunc_sat_f32_u i64.trunc_sat_f64_s i64.trunc_sat_f64_u"},
}

// instruction: one of them, taken apart by its name.
type instruction struct {
	op      int
	name    string
	does    string // the name without types and sign: "lt", "trunc_sat"
	signed  bool
	in, out byte
	n       int
	w, to   int // the widths of the operands and of what is answered
}

// typeOf: the type of that name.
func typeOf(name string) (byte, bool) {
	switch name {
	case "i32":
		return api.I32, true
	case "i64":
		return api.I64, true
	case "f32":
		return api.F32, true
	case "f64":
		return api.F64, true
	}
	return 0, false
}

// bitsIn: how many bits a number of a type has.
func bitsIn(t byte) int {
	switch t {
	case api.I32, api.F32:
		return 32
	case api.I64, api.F64:
		return 64
	}
	return 0
}

// isFloat: whether it is a float's type.
func isFloat(t byte) bool { return t == api.F32 || t == api.F64 }

// among: whether the word stands in the text of words.
func among(word, words string) bool { return strings.Contains(" "+words+" ", " "+word+" ") }

// parse: an instruction by the chapter's rule of its name.
func parse(op int, name string) instruction {
	x := instruction{op: op, name: name, n: 2}
	first, rest, _ := strings.Cut(name, ".")
	x.out, _ = typeOf(first)
	x.in = x.out
	if s, ok := strings.CutSuffix(rest, "_s"); ok {
		x.signed, rest = true, s
	} else {
		rest = strings.TrimSuffix(rest, "_u")
	}
	if i := strings.LastIndex(rest, "_"); i >= 0 {
		if t, ok := typeOf(rest[i+1:]); ok {
			x.in, rest, x.n = t, rest[:i], 1
		}
	}
	x.does = rest
	if among(x.does, "eqz eq ne lt gt le ge") {
		x.out = api.I32
	}
	if among(x.does, "eqz clz ctz popcnt abs neg ceil floor trunc nearest sqrt") {
		x.n = 1
	}
	x.w, x.to = bitsIn(x.in), bitsIn(x.out)
	return x
}

// instructions: all of them.
func instructions() []instruction {
	var l []instruction
	for _, g := range listed {
		for i, name := range strings.Fields(g.names) {
			l = append(l, parse(g.first+i, name))
		}
	}
	return l
}

// opOf: the opcode of a name.
func opOf(t *testing.T, name string) int {
	t.Helper()
	for _, x := range instructions() {
		if x.name == name {
			return x.op
		}
	}
	t.Fatal("no such name:", name)
	return 0
}

// all: the number of that width whose bits are all 1.
func all(w int) uint64 { return math.MaxUint64 >> (64 - w) }

// top: the highest bit of that width.
func top(w int) uint64 { return 1 << (w - 1) }

// words: numbers of 64 bits without a pattern, the same at each run.
func words(n int) []uint64 {
	l := make([]uint64, n)
	x := uint64(0x9e3779b97f4a7c15)
	for i := range l {
		x ^= x << 13
		x ^= x >> 7
		x ^= x << 17
		l[i] = x
	}
	return l
}

// wholes: whole numbers of a width: its edges, what is shifted by, and some without a pattern.
func wholes(w int) []uint64 {
	l := []uint64{0, 1, 2, 3, 7, 31, 32, 33, 63, 64, 65, 1<<24 + 1, 1<<31 - 1, 1 << 31, 1<<31 + 1, 1<<32 - 1}
	l = append(l, top(w)-1, top(w), top(w)+1, all(w)-6, all(w)-1, all(w))
	for i, n := range words(10) {
		l = append(l, n&all(w)>>i)
	}
	return l
}

// layout: the sizes of a float's fields.
func layout(w int) (e, f int) {
	if w == api.W32 {
		return 8, 23
	}
	return 11, 52
}

// infinite: the infinite one without a sign.
func infinite(w int) uint64 {
	e, f := layout(w)
	return (1<<e - 1) << f
}

// canonical: the canonical NaN.
func canonical(w int) uint64 {
	_, f := layout(w)
	return infinite(w) | 1<<(f-1)
}

// noNumbers: NaNs, the canonical one first, of either sign.
func noNumbers(w int) []uint64 {
	_, f := layout(w)
	l := []uint64{canonical(w)}
	for _, frac := range []uint64{1, 2, 1<<(f-1) - 1, 1<<(f-1) + 1, 1<<f - 1, 1 << (f - 2)} {
		l = append(l, infinite(w)|frac)
	}
	return append(l, withSigns(w, l)...)
}

// withSigns: the floats with the other sign.
func withSigns(w int, l []uint64) []uint64 {
	var m []uint64
	for _, a := range l {
		m = append(m, a^top(w))
	}
	return m
}

// floatOf: the float that is nearest to Go's.
func floatOf(w int, x float64) uint64 {
	if w == api.W32 {
		return uint64(math.Float32bits(float32(x)))
	}
	return math.Float64bits(x)
}

// valueOf: Go's float of these bits.
func valueOf(w int, a uint64) float64 {
	if w == api.W32 {
		return float64(math.Float32frombits(uint32(a)))
	}
	return math.Float64frombits(a)
}

// ends: floats at and beside the ends of whole numbers, with what lies next to each of them.
func ends(w int) []uint64 {
	var l []uint64
	for _, x := range []float64{1, 2147483647, 2147483648, 2147483649, 4294967295, 4294967296, 9223372036854775808, 18446744073709551616} {
		for _, y := range []float64{x - 1, x - 0.5, x, x + 0.5, x + 1} {
			l = append(l, floatOf(w, y))
		}
		at := floatOf(w, x)
		l = append(l, at-1, at+1)
	}
	return append(l, withSigns(w, l)...)
}

// floats: floats of a width: noughts, the least and the greatest ones, halves, the infinite ones, and some without a pattern.
func floats(w int) []uint64 {
	_, f := layout(w)
	l := []uint64{0, 1, 2, 1<<f - 1, 1 << f, 1<<f + 1, infinite(w) - 1, infinite(w)}
	for _, x := range []float64{0.25, 0.5, 0.75, 1, 1.5, 2, 2.5, 3, 3.5, 4, 10, 1e-20, 1e19, 1e30} {
		l = append(l, floatOf(w, x))
	}
	l = append(l, withSigns(w, l)...)
	for _, n := range words(10) {
		l = append(l, n&all(w))
	}
	return append(append(l, noNumbers(w)[:4]...), canonical(w)|top(w))
}

// operandsOf: operands of a type; more of them, if there is one alone.
func operandsOf(x instruction) []uint64 {
	if !isFloat(x.in) {
		return wholes(x.w)
	}
	l := floats(x.w)
	if x.n == 1 {
		l = append(append(l, ends(x.w)...), noNumbers(x.w)...)
	}
	return l
}

// pairs: operands of an instruction, the second ones of one with a single operand too: they don't count there.
func pairs(x instruction) [][2]uint64 {
	var l [][2]uint64
	seconds := operandsOf(x)
	if x.n == 1 {
		seconds = []uint64{0, 1, math.MaxUint64}
	}
	for _, a := range operandsOf(x) {
		for _, b := range seconds {
			l = append(l, [2]uint64{a, b})
		}
	}
	return l
}

// above: other bits above a width, none first.
func above(w int) []uint64 {
	if w == api.W64 {
		return []uint64{0}
	}
	return []uint64{0, 1 << 32, 1 << 63, 0xffffffff << 32, 0x7fffffff << 32, 0x9e3779b9 << 32}
}

// number: 1 if it is so, else 0.
func number(so bool) uint64 {
	if so {
		return 1
	}
	return 0
}

// The chapter's examples

func TestExamples(t *testing.T) {
	if n, trap := Apply(0x6a, 4294967295, 1); n != 0 || trap != api.NoTrap {
		t.Error("4294967295 and 1:", n, trap)
	}
	for _, a := range []uint64{0, 1, 7, 1 << 31, 1<<32 - 1} {
		if n, trap := Apply(0x6e, a, 0); n != 0 || trap != api.TrapDivide {
			t.Error(a, "by 0:", n, trap)
		}
	}
}

// DOC.md's tenth example of the whole, and its ninth.
func TestExamplesOfTheWhole(t *testing.T) {
	two31 := math.Float64bits(2147483648)
	if n, trap := Apply(0xaa, two31, 0); n != 0 || trap != api.TrapOverflow {
		t.Error("i32.trunc_f64_s:", n, trap)
	}
	if n, trap := Apply(0xfc02, two31, 0); n != 2147483647 || trap != api.NoTrap {
		t.Error("i32.trunc_sat_f64_s:", n, trap)
	}
	if n, trap := Apply(0x9f, math.Float64bits(2), 0); n != 0x3ff6a09e667f3bcd || trap != api.NoTrap {
		t.Errorf("f64.sqrt: %x %d", n, trap)
	}
	if n, trap := Apply(0xa3, math.Float64bits(1), 0); n != infinite(64) || trap != api.NoTrap {
		t.Errorf("f64.div: %x %d", n, trap)
	}
}

// P14.1, by hand

func TestKindByHand(t *testing.T) {
	const i, l, f, d = api.I32, api.I64, api.F32, api.F64
	for _, c := range []struct {
		from, upTo int
		in         byte
		n          int
		out        byte
	}{
		{0x45, 0x45, i, 1, i}, // i32.eqz
		{0x46, 0x4f, i, 2, i},
		{0x50, 0x50, l, 1, i}, // i64.eqz
		{0x51, 0x5a, l, 2, i},
		{0x5b, 0x60, f, 2, i},
		{0x61, 0x66, d, 2, i},
		{0x67, 0x69, i, 1, i}, // i32.clz to i32.popcnt
		{0x6a, 0x78, i, 2, i},
		{0x79, 0x7b, l, 1, l}, // i64.clz to i64.popcnt
		{0x7c, 0x8a, l, 2, l},
		{0x8b, 0x91, f, 1, f}, // f32.abs to f32.sqrt
		{0x92, 0x98, f, 2, f},
		{0x99, 0x9f, d, 1, d}, // f64.abs to f64.sqrt
		{0xa0, 0xa6, d, 2, d},
		{0xa7, 0xa7, l, 1, i}, // i32.wrap_i64
		{0xa8, 0xa9, f, 1, i},
		{0xaa, 0xab, d, 1, i},
		{0xac, 0xad, i, 1, l}, // i64.extend_i32
		{0xae, 0xaf, f, 1, l},
		{0xb0, 0xb1, d, 1, l},
		{0xb2, 0xb3, i, 1, f}, // f32.convert_i32
		{0xb4, 0xb5, l, 1, f},
		{0xb6, 0xb6, d, 1, f}, // f32.demote_f64
		{0xb7, 0xb8, i, 1, d},
		{0xb9, 0xba, l, 1, d},
		{0xbb, 0xbb, f, 1, d}, // f64.promote_f32
		{0xbc, 0xbc, f, 1, i}, // reinterpret
		{0xbd, 0xbd, d, 1, l},
		{0xbe, 0xbe, i, 1, f},
		{0xbf, 0xbf, l, 1, d},
		{0xfc00, 0xfc01, f, 1, i}, // trunc_sat
		{0xfc02, 0xfc03, d, 1, i},
		{0xfc04, 0xfc05, f, 1, l},
		{0xfc06, 0xfc07, d, 1, l},
	} {
		for op := c.from; op <= c.upTo; op++ {
			if in, n, out, ok := Kind(op); in != c.in || n != c.n || out != c.out || !ok {
				t.Errorf("%x: %x %d %x %v", op, in, n, out, ok)
			}
		}
	}
}

// P14.1

func TestKindOfEachName(t *testing.T) {
	for _, x := range instructions() {
		if in, n, out, ok := Kind(x.op); in != x.in || n != x.n || out != x.out || !ok {
			t.Errorf("%x %s: %x %d %x %v", x.op, x.name, in, n, out, ok)
		}
	}
}

// The list itself: each group ends where the next one begins, but for the last two.
func TestListHasNoGap(t *testing.T) {
	next := 0x45
	for _, x := range instructions() {
		if x.op == 0xfc00 {
			if next != 0xc0 {
				t.Errorf("the first byte's opcodes end before %x", next)
			}
			next = x.op
		}
		if x.op != next {
			t.Fatalf("%s is %x and not %x", x.name, x.op, next)
		}
		next++
	}
	if next != 0xfc08 {
		t.Errorf("all end before %x", next)
	}
}

func TestSat(t *testing.T) {
	for _, x := range instructions() {
		if got := Sat(x.op); got != strings.Contains(x.name, "trunc_sat") {
			t.Errorf("%x %s: %v", x.op, x.name, got)
		}
	}
	for op := 0xfc00; op <= 0xfc07; op++ {
		if !Sat(op) {
			t.Errorf("%x: false", op)
		}
	}
}

// numbersBeside: numbers that are no opcode of the list: all that lie around and between the groups, and far ones whose lowest bits are an opcode's.
func numbersBeside() []int {
	l := []int{math.MinInt, math.MinInt + 1, math.MinInt + 0x45, math.MaxInt, math.MaxInt - 1, math.MinInt32, math.MaxInt32, 1 << 32}
	for n := -0x10100; n <= 0x20000; n++ {
		if n < 0x45 || n > 0xbf && n < 0xfc00 || n > 0xfc07 {
			l = append(l, n)
		}
	}
	for _, x := range instructions() {
		l = append(l, x.op+1<<32, x.op-1<<32, x.op+1<<24, -x.op, x.op+math.MinInt, x.op|1<<62)
	}
	return l
}

func TestNoOpcode(t *testing.T) {
	for _, op := range numbersBeside() {
		if in, n, out, ok := Kind(op); in != 0 || n != 0 || out != 0 || ok {
			t.Fatalf("Kind of %x: %x %d %x %v", op, in, n, out, ok)
		}
		if Sat(op) {
			t.Fatalf("Sat of %x", op)
		}
		for _, c := range [][2]uint64{{0, 0}, {1, 1}, {7, 0}, {1 << 31, 1<<32 - 1}, {1 << 63, math.MaxUint64}, {canonical(32), 3}, {canonical(64), 3}} {
			if n, trap := Apply(op, c[0], c[1]); n != 0 || trap != api.NoTrap {
				t.Fatalf("Apply of %x of %x and %x: %x %d", op, c[0], c[1], n, trap)
			}
		}
	}
}

// Beside each end of the list, written out once more.
func TestBesideTheEnds(t *testing.T) {
	for _, op := range []int{-1, 0, 0x44, 0xc0, 0xc4, 0xfb, 0xfc, 0xff, 0x100, 0xfbff, 0xfc08, 0xfc0b, 0xfcff, 0xfd00} {
		_, _, _, ok := Kind(op)
		n, trap := Apply(op, 5, 0)
		if ok || Sat(op) || n != 0 || trap != api.NoTrap {
			t.Errorf("%x: %v %v %x %d", op, ok, Sat(op), n, trap)
		}
	}
	for _, op := range []int{0x45, 0xbf, 0xfc00, 0xfc07} {
		if _, _, _, ok := Kind(op); !ok {
			t.Errorf("%x: none", op)
		}
	}
}

// P14.2, by hand

func TestApplyByHand(t *testing.T) {
	const minusOne32, minusOne64 = 1<<32 - 1, math.MaxUint64
	for _, c := range []struct {
		name string
		a, b uint64
		want uint64
	}{
		{"i32.eqz", 0, 5, 1}, {"i32.eqz", 1, 0, 0}, {"i32.eqz", 1 << 31, 0, 0}, {"i32.eqz", 1 << 32, 0, 1}, {"i32.eqz", 1<<63 + 1, 0, 0},
		{"i64.eqz", 0, 5, 1}, {"i64.eqz", 1, 0, 0}, {"i64.eqz", 1 << 32, 0, 0}, {"i64.eqz", 1 << 63, 0, 0},
		{"i32.eq", 5, 5 | 1<<32, 1}, {"i32.eq", 5, 5 | 1<<31, 0}, {"i64.eq", 5, 5 | 1<<32, 0}, {"i64.eq", 1 << 63, 1 << 63, 1},
		{"i32.ne", 5 | 1<<40, 5, 0}, {"i32.ne", 5, 4, 1}, {"i64.ne", 5 | 1<<40, 5, 1}, {"i64.ne", 7, 7, 0},
		{"i32.lt_s", minusOne32, 0, 1}, {"i32.lt_u", minusOne32, 0, 0}, {"i64.lt_s", minusOne32, 0, 0}, {"i64.lt_s", minusOne64, 0, 1}, {"i64.lt_u", 0, minusOne64, 1},
		{"i32.gt_s", minusOne32, 0, 0}, {"i32.gt_u", minusOne32, 0, 1}, {"i64.gt_s", 1, 1 << 63, 1}, {"i64.gt_u", 1, 1 << 63, 0},
		{"i32.le_s", 1 << 31, 1<<31 - 1, 1}, {"i32.le_u", 1 << 31, 1<<31 - 1, 0}, {"i32.le_s", 3, 3, 1}, {"i32.le_u", 3, 3, 1}, {"i64.le_s", 4, 3, 0}, {"i64.le_u", 3, 4, 1},
		{"i32.ge_s", 1 << 31, 1<<31 - 1, 0}, {"i32.ge_u", 1 << 31, 1<<31 - 1, 1}, {"i32.ge_s", 3, 3, 1}, {"i32.ge_u", 3, 3, 1}, {"i64.ge_s", minusOne64, 0, 0}, {"i64.ge_u", minusOne64, 0, 1},
		{"f32.eq", 0, 0x80000000, 1}, {"f32.ne", 0, 0x80000000, 0}, {"f32.lt", 0xbf800000, 0x3f800000, 1}, {"f32.gt", 0xbf800000, 0x3f800000, 0}, {"f32.le", 0, 0x80000000, 1}, {"f32.ge", 0, 0x80000000, 1},
		{"f64.eq", 0, 1 << 63, 1}, {"f64.ne", 0, 1, 1}, {"f64.lt", 1, 2, 1}, {"f64.gt", 1<<63 | 1, 1<<63 | 2, 1}, {"f64.le", 2, 1, 0}, {"f64.ge", 1, 2, 0},
		{"i32.clz", 1, 0, 31}, {"i32.clz", 1 << 32, 0, 32}, {"i64.clz", 1, 0, 63}, {"i64.clz", 0, 0, 64},
		{"i32.ctz", 8, 0, 3}, {"i32.ctz", 0, 0, 32}, {"i64.ctz", 1 << 32, 0, 32}, {"i64.ctz", 0, 0, 64},
		{"i32.popcnt", minusOne64, 0, 32}, {"i64.popcnt", minusOne64, 0, 64}, {"i32.popcnt", 0x30001, 0, 3},
		{"i32.add", minusOne32, 2, 1}, {"i64.add", minusOne32, 2, 1<<32 + 1}, {"i64.add", minusOne64, 2, 1},
		{"i32.sub", 3, 5, 1<<32 - 2}, {"i64.sub", 3, 5, math.MaxUint64 - 1},
		{"i32.mul", 1 << 16, 1<<16 + 3, 3 << 16}, {"i64.mul", 1 << 16, 1<<16 + 3, 1<<32 + 3<<16}, {"i64.mul", 1 << 32, 1<<32 + 3, 3 << 32},
		{"i32.div_s", 1<<32 - 7, 2, 1<<32 - 3}, {"i32.div_u", 1<<32 - 7, 2, 1<<31 - 4}, {"i64.div_s", math.MaxUint64 - 6, 2, math.MaxUint64 - 2}, {"i64.div_u", math.MaxUint64 - 6, 2, 1<<63 - 4},
		{"i32.rem_s", 1<<32 - 7, 2, minusOne32}, {"i32.rem_u", 1<<32 - 7, 2, 1}, {"i64.rem_s", math.MaxUint64 - 6, 2, minusOne64}, {"i64.rem_u", math.MaxUint64 - 6, 2, 1},
		{"i32.rem_s", 1 << 31, minusOne32, 0}, {"i64.rem_s", 1 << 63, minusOne64, 0}, {"i32.div_u", 1 << 31, minusOne32, 0}, {"i64.div_u", 1 << 63, minusOne64, 0},
		{"i32.and", 0xc, 0xa, 8}, {"i32.or", 0xc, 0xa, 0xe}, {"i32.xor", 0xc, 0xa, 6}, {"i64.and", 0xc << 40, 0xa << 40, 8 << 40}, {"i64.or", 0xc << 40, 0xa << 40, 0xe << 40}, {"i64.xor", 0xc << 40, 0xa << 40, 6 << 40},
		{"i32.shl", 1, 33, 2}, {"i64.shl", 1, 33, 1 << 33}, {"i32.shr_s", 1 << 31, 4, 0xf8000000}, {"i32.shr_u", 1 << 31, 4, 0x08000000}, {"i64.shr_s", 1 << 63, 4, 0xf8 << 56}, {"i64.shr_u", 1 << 63, 4, 0x08 << 56},
		{"i32.rotl", 0x80000001, 1, 3}, {"i32.rotr", 3, 1, 0x80000001}, {"i64.rotl", 1<<63 | 1, 1, 3}, {"i64.rotr", 3, 1, 1<<63 | 1},
		{"f32.abs", 0xbf800000, 0, 0x3f800000}, {"f32.neg", 0x3f800000, 0, 0xbf800000}, {"f32.ceil", 0x3fc00000, 0, 0x40000000}, {"f32.floor", 0x3fc00000, 0, 0x3f800000}, {"f32.trunc", 0xbfc00000, 0, 0xbf800000}, {"f32.nearest", 0x40200000, 0, 0x40000000}, {"f32.sqrt", 0x40800000, 0, 0x40000000},
		{"f32.add", 0x3f800000, 0x40000000, 0x40400000}, {"f32.sub", 0x3f800000, 0x40000000, 0xbf800000}, {"f32.mul", 0x40000000, 0x40400000, 0x40c00000}, {"f32.div", 0x3f800000, 0x40000000, 0x3f000000}, {"f32.min", 0, 0x80000000, 0x80000000}, {"f32.max", 0x80000000, 0, 0}, {"f32.copysign", 0x3f800000, 0x80000000, 0xbf800000}, {"f32.copysign", 0xbf800000, 0, 0x3f800000},
		{"f64.abs", 0xbff << 52, 0, 0x3ff << 52}, {"f64.neg", 0x3ff << 52, 0, 0xbff << 52}, {"f64.ceil", 0x3ff8 << 48, 0, 0x400 << 52}, {"f64.floor", 0x3ff8 << 48, 0, 0x3ff << 52}, {"f64.trunc", 0xbff8 << 48, 0, 0xbff << 52}, {"f64.nearest", 0x4004 << 48, 0, 0x400 << 52}, {"f64.sqrt", 0x401 << 52, 0, 0x400 << 52},
		{"f64.add", 0x3ff << 52, 0x400 << 52, 0x4008 << 48}, {"f64.sub", 0x3ff << 52, 0x400 << 52, 0xbff << 52}, {"f64.mul", 0x400 << 52, 0x4008 << 48, 0x4018 << 48}, {"f64.div", 0x3ff << 52, 0x400 << 52, 0x3fe << 52}, {"f64.min", 0, 1 << 63, 1 << 63}, {"f64.max", 1 << 63, 0, 0}, {"f64.copysign", 0x3ff << 52, 1 << 63, 0xbff << 52}, {"f64.copysign", 0xbff << 52, 0, 0x3ff << 52},
		{"i32.wrap_i64", 1<<40 | 7, 0, 7}, {"i32.wrap_i64", minusOne64, 0, minusOne32},
		{"i32.trunc_f32_s", 0xc0600000, 0, 1<<32 - 3}, {"i32.trunc_f32_u", 0x40600000, 0, 3}, {"i32.trunc_f64_s", 0xc00c << 48, 0, 1<<32 - 3}, {"i32.trunc_f64_u", 0x400c << 48, 0, 3},
		{"i64.trunc_f32_s", 0xc0600000, 0, math.MaxUint64 - 2}, {"i64.trunc_f32_u", 0x40600000, 0, 3}, {"i64.trunc_f64_s", 0xc00c << 48, 0, math.MaxUint64 - 2}, {"i64.trunc_f64_u", 0x400c << 48, 0, 3},
		{"i64.extend_i32_s", 1 << 31, 0, 0xffffffff80000000}, {"i64.extend_i32_s", 1<<63 | 5, 0, 5}, {"i64.extend_i32_u", 1 << 31, 0, 1 << 31}, {"i64.extend_i32_u", minusOne64, 0, minusOne32},
		{"f32.convert_i32_s", minusOne32, 0, 0xbf800000}, {"f32.convert_i32_u", minusOne32, 0, 0x4f800000}, {"f32.convert_i64_s", minusOne64, 0, 0xbf800000}, {"f32.convert_i64_u", minusOne64, 0, 0x5f800000}, {"f32.convert_i64_s", minusOne32, 0, 0x4f800000},
		{"f64.convert_i32_s", minusOne32, 0, 0xbff << 52}, {"f64.convert_i32_u", minusOne32, 0, 0x41efffffffe00000}, {"f64.convert_i64_s", minusOne64, 0, 0xbff << 52}, {"f64.convert_i64_u", minusOne64, 0, 0x43f << 52}, {"f64.convert_i64_s", minusOne32, 0, 0x41efffffffe00000},
		{"f32.demote_f64", 0x3ff << 52, 0, 0x3f800000}, {"f32.demote_f64", infinite(64) - 1, 0, 0x7f800000}, {"f64.promote_f32", 0x3f800000, 0, 0x3ff << 52}, {"f64.promote_f32", 1, 0, 0x36a << 52},
		{"i32.reinterpret_f32", 0xff800001, 0, 0xff800001}, {"i64.reinterpret_f64", 0xfff0000000000001, 0, 0xfff0000000000001}, {"f32.reinterpret_i32", 0xff800001, 0, 0xff800001}, {"f64.reinterpret_i64", 0xfff0000000000001, 0, 0xfff0000000000001},
		{"i32.trunc_sat_f32_s", 0xff800000, 0, 1 << 31}, {"i32.trunc_sat_f32_u", 0x7f800000, 0, minusOne32}, {"i32.trunc_sat_f64_s", infinite(64), 0, 1<<31 - 1}, {"i32.trunc_sat_f64_u", 0xbff << 52, 0, 0},
		{"i64.trunc_sat_f32_s", 0x7f800000, 0, 1<<63 - 1}, {"i64.trunc_sat_f32_u", 0x7f800000, 0, minusOne64}, {"i64.trunc_sat_f64_s", 0xfff << 52, 0, 1 << 63}, {"i64.trunc_sat_f64_u", infinite(64), 0, minusOne64},
	} {
		if n, trap := Apply(opOf(t, c.name), c.a, c.b); n != c.want || trap != api.NoTrap {
			t.Errorf("%s of %x and %x: %x %d", c.name, c.a, c.b, n, trap)
		}
	}
}

func TestTrapsByHand(t *testing.T) {
	const divide, overflow, convert = api.TrapDivide, api.TrapOverflow, api.TrapConvert
	for _, c := range []struct {
		name string
		a, b uint64
		want api.Trap
	}{
		{"i32.div_s", 5, 0, divide}, {"i32.div_u", 5, 0, divide}, {"i32.rem_s", 5, 0, divide}, {"i32.rem_u", 5, 0, divide},
		{"i32.div_s", 5, 1 << 32, divide}, {"i32.div_u", 5, 1 << 63, divide}, {"i32.rem_s", 5, 0xffffffff << 32, divide}, {"i32.rem_u", 5, 1 << 40, divide},
		{"i64.div_s", 5, 0, divide}, {"i64.div_u", 5, 0, divide}, {"i64.rem_s", 5, 0, divide}, {"i64.rem_u", 5, 0, divide},
		{"i32.div_s", 0, 0, divide}, {"i64.rem_u", 0, 0, divide}, {"i32.div_s", 1 << 31, 0, divide}, {"i64.div_s", 1 << 63, 0, divide},
		{"i32.div_s", 1 << 31, 1<<32 - 1, overflow}, {"i32.div_s", 1<<63 | 1<<31, math.MaxUint64, overflow}, {"i64.div_s", 1 << 63, math.MaxUint64, overflow},
		{"i32.trunc_f32_s", canonical(32), 0, convert}, {"i32.trunc_f32_u", 0xff800001, 0, convert}, {"i32.trunc_f64_s", canonical(64), 0, convert}, {"i32.trunc_f64_u", math.MaxUint64, 0, convert},
		{"i64.trunc_f32_s", canonical(32), 0, convert}, {"i64.trunc_f32_u", 0xff800001, 0, convert}, {"i64.trunc_f64_s", canonical(64), 0, convert}, {"i64.trunc_f64_u", math.MaxUint64, 0, convert},
		{"i32.trunc_f32_s", 0x7f800000, 0, overflow}, {"i32.trunc_f32_u", 0xff800000, 0, overflow}, {"i64.trunc_f64_s", infinite(64), 0, overflow}, {"i64.trunc_f64_u", 0xfff << 52, 0, overflow},
		{"i32.trunc_f32_s", 0x4f000000, 0, overflow}, {"i32.trunc_f32_u", 0x4f800000, 0, overflow}, {"i32.trunc_f32_u", 0xbf800000, 0, overflow}, {"i32.trunc_f32_s", 0xcf000001, 0, overflow},
		{"i32.trunc_f64_s", 0x41e << 52, 0, overflow}, {"i32.trunc_f64_s", 0xc1e0000000200000, 0, overflow}, {"i32.trunc_f64_u", 0x41f << 52, 0, overflow}, {"i32.trunc_f64_u", 0xbff << 52, 0, overflow},
		{"i64.trunc_f32_s", 0x5f000000, 0, overflow}, {"i64.trunc_f32_s", 0xdf000001, 0, overflow}, {"i64.trunc_f32_u", 0x5f800000, 0, overflow}, {"i64.trunc_f32_u", 0xbf800000, 0, overflow},
		{"i64.trunc_f64_s", 0x43e << 52, 0, overflow}, {"i64.trunc_f64_s", 0xc3e0000000000001, 0, overflow}, {"i64.trunc_f64_u", 0x43f << 52, 0, overflow}, {"i64.trunc_f64_u", 0xbff << 52, 0, overflow},
	} {
		if n, trap := Apply(opOf(t, c.name), c.a, c.b); n != 0 || trap != c.want {
			t.Errorf("%s of %x and %x: %x %d", c.name, c.a, c.b, n, trap)
		}
	}
}

// At the ends themselves nothing traps, and beside them, where the whole part is still an end.
func TestEndsByHand(t *testing.T) {
	for _, c := range []struct {
		name string
		a    uint64
		want uint64
	}{
		{"i32.trunc_f32_s", 0xcf000000, 1 << 31}, {"i32.trunc_f32_s", 0x4effffff, 0x7fffff80}, {"i32.trunc_f32_u", 0x4f7fffff, 0xffffff00}, {"i32.trunc_f32_u", 0xbf7fffff, 0},
		{"i32.trunc_f64_s", 0xc1e << 52, 1 << 31}, {"i32.trunc_f64_s", 0xc1e00000001fffff, 1 << 31}, {"i32.trunc_f64_s", 0x41dfffffffffffff, 1<<31 - 1}, {"i32.trunc_f64_u", 0x41efffffffffffff, 1<<32 - 1}, {"i32.trunc_f64_u", 0xbfefffffffffffff, 0},
		{"i64.trunc_f32_s", 0xdf000000, 1 << 63}, {"i64.trunc_f32_s", 0x5effffff, 1<<63 - 1<<39}, {"i64.trunc_f32_u", 0x5f7fffff, math.MaxUint64 - 1<<40 + 1}, {"i64.trunc_f32_u", 0xbf7fffff, 0},
		{"i64.trunc_f64_s", 0xc3e << 52, 1 << 63}, {"i64.trunc_f64_s", 0x43dfffffffffffff, 1<<63 - 1<<10}, {"i64.trunc_f64_u", 0x43efffffffffffff, math.MaxUint64 - 1<<11 + 1}, {"i64.trunc_f64_u", 0xbfefffffffffffff, 0},
	} {
		if n, trap := Apply(opOf(t, c.name), c.a, 0); n != c.want || trap != api.NoTrap {
			t.Errorf("%s of %x: %x %d", c.name, c.a, n, trap)
		}
	}
}

// P14.2, by the layers below

// byLayer: what the layer that the chapter names answers, of operands that are cut off.
func byLayer(x instruction, a, b uint64) (uint64, api.Trap) {
	if n, trap, ok := byTrapping(x, a, b); ok {
		return n, trap
	}
	if n, ok := byAsking(x, a, b); ok {
		return n, api.NoTrap
	}
	if x.n == 2 && isFloat(x.in) {
		return byFloats(x, a, b), api.NoTrap
	}
	if x.n == 2 {
		return byWholes(x, a, b), api.NoTrap
	}
	return byOne(x, a), api.NoTrap
}

func byTrapping(x instruction, a, b uint64) (uint64, api.Trap, bool) {
	divide := map[string]func(w int, a, b uint64) (uint64, api.Trap){"i.div_s": ints.DivS, "i.div_u": ints.DivU, "i.rem_s": ints.RemS, "i.rem_u": ints.RemU}
	_, rest, _ := strings.Cut(x.name, ".")
	if f := divide[x.name[:1]+"."+rest]; f != nil {
		n, trap := f(x.w, a, b)
		return n, trap, true
	}
	if x.does == "trunc" && x.in != x.out {
		n, trap := chop.Trap(x.w, x.to, a, x.signed)
		return n, trap, true
	}
	return 0, 0, false
}

func byAsking(x instruction, a, b uint64) (uint64, bool) {
	if isFloat(x.in) {
		f := map[string]func(w int, a, b uint64) bool{"eq": order.Eq, "ne": order.Ne, "lt": order.Lt, "gt": order.Gt, "le": order.Le, "ge": order.Ge}[x.does]
		return number(f != nil && f(x.w, a, b)), f != nil
	}
	lt := ints.LtU
	if x.signed {
		lt = ints.LtS
	}
	switch x.does {
	case "eqz":
		return number(a == 0), true
	case "eq":
		return number(a == b), true
	case "ne":
		return number(a != b), true
	case "lt":
		return number(lt(x.w, a, b)), true
	case "gt":
		return number(lt(x.w, b, a)), true
	case "le":
		return number(!lt(x.w, b, a)), true
	case "ge":
		return number(!lt(x.w, a, b)), true
	}
	return 0, false
}

func byFloats(x instruction, a, b uint64) uint64 {
	return map[string]func(w int, a, b uint64) uint64{
		"add": sum.Add, "sub": sum.Sub, "mul": product.Mul, "div": quotient.Div,
		"min": order.Min, "max": order.Max, "copysign": sign.Copysign,
	}[x.does](x.w, a, b)
}

func byWholes(x instruction, a, b uint64) uint64 {
	_, rest, _ := strings.Cut(x.name, ".")
	return map[string]func(w int, a, b uint64) uint64{
		"add": ints.Add, "sub": ints.Sub, "mul": ints.Mul,
		"shl": ints.Shl, "shr_s": ints.ShrS, "shr_u": ints.ShrU, "rotl": ints.Rotl, "rotr": ints.Rotr,
		"and": func(w int, a, b uint64) uint64 { return a & b },
		"or":  func(w int, a, b uint64) uint64 { return a | b },
		"xor": func(w int, a, b uint64) uint64 { return a ^ b },
	}[rest](x.w, a, b)
}

func byOne(x instruction, a uint64) uint64 {
	f := map[string]func(w int, a uint64) uint64{
		"clz": ints.Clz, "ctz": ints.Ctz, "popcnt": ints.Popcnt,
		"abs": sign.Abs, "neg": sign.Neg,
		"ceil": whole.Ceil, "floor": whole.Floor, "trunc": whole.Trunc, "nearest": whole.Nearest, "sqrt": radix.Sqrt,
	}[x.does]
	if f != nil {
		return f(x.w, a)
	}
	switch x.does {
	case "trunc_sat":
		return chop.Sat(x.w, x.to, a, x.signed)
	case "convert":
		if x.signed {
			return cast.FromInt(x.to, x.w, a)
		}
		return cast.FromUint(x.to, x.w, a)
	case "demote":
		return cast.Demote(a)
	case "promote":
		return cast.Promote(a)
	case "extend":
		return ints.Extend(x.to, x.w, a, x.signed)
	}
	return a & all(x.to) // wrap and reinterpret
}

func TestAgainstLayers(t *testing.T) {
	for _, x := range instructions() {
		for _, c := range pairs(x) {
			want, wantTrap := byLayer(x, c[0], c[1])
			if n, trap := Apply(x.op, c[0], c[1]); n != want || trap != wantTrap {
				t.Fatalf("%s of %x and %x: %x %d, not %x %d", x.name, c[0], c[1], n, trap, want, wantTrap)
			}
		}
	}
}

// P14.2, by Go's arithmetic

// goInts: what Go's arithmetic makes of whole numbers of 32 bits, written for 64: of operands whose sign is laid out.
func goInts(x instruction, a, b uint64) (uint64, api.Trap) {
	sa, sb := withSign(x.w, a), withSign(x.w, b)
	by := b % uint64(x.w)
	switch x.does {
	case "clz":
		return uint64(bits.LeadingZeros64(a) - (64 - x.w)), 0
	case "ctz":
		return uint64(min(x.w, bits.TrailingZeros64(a))), 0
	case "popcnt":
		return uint64(bits.OnesCount64(a)), 0
	case "add":
		return a + b, 0
	case "sub":
		return a - b, 0
	case "mul":
		return a * b, 0
	case "and":
		return a &^ ^b, 0
	case "or":
		return ^(^a &^ b), 0
	case "xor":
		return (a | b) - (a & b), 0
	case "shl":
		return a << by, 0
	case "shr":
		if x.signed {
			return uint64(sa >> by), 0
		}
		return a >> by, 0
	case "rotl":
		return turned(x.w, a, int(by)), 0
	case "rotr":
		return turned(x.w, a, -int(by)), 0
	}
	return goDivisions(x, a, b, sa, sb)
}

func goDivisions(x instruction, a, b uint64, sa, sb int64) (uint64, api.Trap) {
	switch {
	case b == 0:
		return 0, api.TrapDivide
	case !x.signed && x.does == "div":
		return a / b, 0
	case !x.signed:
		return a % b, 0
	case sb == -1 && x.does == "rem":
		return 0, 0
	case sb == -1 && a == top(x.w):
		return 0, api.TrapOverflow
	case x.does == "div":
		return uint64(sa / sb), 0
	}
	return uint64(sa % sb), 0
}

// withSign: the lowest bits as a number with a sign.
func withSign(w int, a uint64) int64 { return int64(a<<(64-w)) >> (64 - w) }

// turned: turned left by so many bits.
func turned(w int, a uint64, by int) uint64 {
	if w == api.W32 {
		return uint64(bits.RotateLeft32(uint32(a), by))
	}
	return bits.RotateLeft64(a, by)
}

// goAsks: what Go's comparisons say.
func goAsks(x instruction, a, b uint64) bool {
	switch {
	case isFloat(x.in):
		return held(x.does, valueOf(x.w, a), valueOf(x.w, b))
	case x.signed:
		return held(x.does, withSign(x.w, a), withSign(x.w, b))
	}
	return held(x.does, a, b)
}

func held[N int64 | uint64 | float64](does string, a, b N) bool {
	switch does {
	case "eqz":
		return a == 0
	case "eq":
		return a == b
	case "ne":
		return a != b
	case "lt":
		return a < b
	case "gt":
		return a > b
	case "le":
		return a <= b
	}
	return a >= b
}

// goFloats: what Go's floats make of floats.
func goFloats(x instruction, a, b uint64) uint64 {
	rest := all(x.w) >> 1
	switch x.does {
	case "abs":
		return a & rest
	case "neg":
		return a ^ top(x.w)
	case "copysign":
		return a&rest | b&^rest
	}
	if x.w == api.W32 {
		return tidy(x.w, uint64(math.Float32bits(goShort(x.does, math.Float32frombits(uint32(a)), math.Float32frombits(uint32(b))))))
	}
	return tidy(x.w, math.Float64bits(goLong(x.does, math.Float64frombits(a), math.Float64frombits(b))))
}

// tidy: the canonical NaN of any, else the bits.
func tidy(w int, a uint64) uint64 {
	if a&^top(w) > infinite(w) {
		return canonical(w)
	}
	return a
}

// goShort: sums, products and quotients are rounded to 32 bits at once; the others are exact, or, roots, rounded twice without harm.
func goShort(does string, a, b float32) float32 {
	switch does {
	case "add":
		return a + b
	case "sub":
		return a - b
	case "mul":
		return a * b
	case "div":
		return a / b
	}
	return float32(goLong(does, float64(a), float64(b)))
}

func goLong(does string, a, b float64) float64 {
	switch does {
	case "add":
		return a + b
	case "sub":
		return a - b
	case "mul":
		return a * b
	case "div":
		return a / b
	case "min":
		return goLesser(a, b)
	case "max":
		return -goLesser(-a, -b)
	case "ceil":
		return math.Ceil(a)
	case "floor":
		return math.Floor(a)
	case "trunc":
		return math.Trunc(a)
	case "nearest":
		return math.RoundToEven(a)
	}
	return math.Sqrt(a)
}

// goLesser: no number, if one is none, even beside the infinite one that math.Min would answer.
func goLesser(a, b float64) float64 {
	if a != a || b != b {
		return math.NaN()
	}
	return math.Min(a, b)
}

// goChanges: what Go makes of a number of another type.
func goChanges(x instruction, a uint64) (uint64, api.Trap) {
	switch x.does {
	case "wrap":
		return uint64(uint32(a)), 0
	case "extend":
		if x.signed {
			return uint64(int64(int32(a))), 0
		}
		return uint64(uint32(a)), 0
	case "convert":
		return goConvert(x, a), 0
	case "demote":
		return tidy(32, uint64(math.Float32bits(float32(math.Float64frombits(a))))), 0
	case "promote":
		return tidy(64, math.Float64bits(float64(math.Float32frombits(uint32(a))))), 0
	case "reinterpret":
		return a, 0
	}
	n, trap := goChopped(x, valueOf(x.w, a))
	if x.does == "trunc" && trap != 0 {
		n = 0
	}
	if x.does == "trunc_sat" {
		trap = 0
	}
	return n, trap
}

func goConvert(x instruction, a uint64) uint64 {
	switch {
	case x.signed && x.to == api.W32:
		return uint64(math.Float32bits(float32(withSign(x.w, a))))
	case x.signed:
		return math.Float64bits(float64(withSign(x.w, a)))
	case x.to == api.W32:
		return uint64(math.Float32bits(float32(a)))
	}
	return math.Float64bits(float64(a))
}

// goChopped: the whole number, or the end next to the float and the trap.
func goChopped(x instruction, v float64) (uint64, api.Trap) {
	low, high := 0.0, math.Ldexp(1, x.to) // the first one that is too great
	least, most := uint64(0), all(x.to)
	if x.signed {
		low, high = -math.Ldexp(1, x.to-1), math.Ldexp(1, x.to-1)
		least, most = top(x.to), top(x.to)-1
	}
	switch v = math.Trunc(v); {
	case v != v:
		return 0, api.TrapConvert
	case v < low:
		return least, api.TrapOverflow
	case v >= high:
		return most, api.TrapOverflow
	case v >= math.Ldexp(1, 63):
		return uint64(v-math.Ldexp(1, 63)) + 1<<63, 0
	}
	return uint64(int64(v)) & all(x.to), 0
}

// byGo: what Go answers.
func byGo(x instruction, a, b uint64) (uint64, api.Trap) {
	switch {
	case among(x.does, "eqz eq ne lt gt le ge"):
		return number(goAsks(x, a, b)), 0
	case x.in != x.out:
		return goChanges(x, a)
	case isFloat(x.in):
		return goFloats(x, a, b), 0
	}
	n, trap := goInts(x, a, b)
	return n & all(x.w), trap
}

func TestAgainstGo(t *testing.T) {
	for _, x := range instructions() {
		for _, c := range pairs(x) {
			want, wantTrap := byGo(x, c[0], c[1])
			if n, trap := Apply(x.op, c[0], c[1]); n != want || trap != wantTrap {
				t.Fatalf("%s of %x and %x: %x %d, not %x %d", x.name, c[0], c[1], n, trap, want, wantTrap)
			}
		}
	}
}

// P14.2, comparisons

// Each comparison, of operands that are below, the same and above.
func TestComparisons(t *testing.T) {
	answers := map[string][3]uint64{"eq": {0, 1, 0}, "ne": {1, 0, 1}, "lt": {1, 0, 0}, "gt": {0, 0, 1}, "le": {1, 1, 0}, "ge": {0, 1, 1}}
	rows := map[string][]uint64{
		"i32u": {0, 1, 1<<31 - 1, 1 << 31, 1<<31 + 1, 1<<32 - 1},
		"i32s": {1 << 31, 1<<31 + 1, 1<<32 - 1, 0, 1, 1<<31 - 1},
		"i64u": {0, 1, 1 << 32, 1<<63 - 1, 1 << 63, math.MaxUint64},
		"i64s": {1 << 63, 1<<63 + 1, math.MaxUint64, 0, 1, 1 << 32, 1<<63 - 1},
		"f32":  {0xff800000, 0xff7fffff, 0xbf800000, 0x80000001, 0, 1, 0x3f800000, 0x7f7fffff, 0x7f800000},
		"f64":  {0xfff << 52, 0xffefffffffffffff, 0xbff << 52, 1<<63 | 1, 1 << 63, 1, 0x3ff << 52, 0x7fefffffffffffff, 0x7ff << 52},
	}
	count := 0
	for _, x := range instructions() {
		want, ok := answers[x.does]
		if !ok {
			continue
		}
		count++
		key := x.name[:3]
		switch {
		case x.signed:
			key += "s"
		case !isFloat(x.in):
			key += "u"
		}
		for i, a := range rows[key] {
			for j, b := range rows[key] {
				at := 1
				if i < j {
					at = 0
				} else if i > j {
					at = 2
				}
				if n, trap := Apply(x.op, a, b); n != want[at] || trap != api.NoTrap {
					t.Errorf("%s of %x and %x: %d %d", x.name, a, b, n, trap)
				}
			}
		}
	}
	if count != 32 {
		t.Error("comparisons:", count)
	}
}

// Of no number all are false but ne.
func TestComparisonsOfNoNumber(t *testing.T) {
	for _, x := range instructions() {
		if !isFloat(x.in) || x.out != api.I32 || x.n != 2 {
			continue
		}
		for _, nan := range noNumbers(x.w) {
			for _, c := range [][2]uint64{{nan, nan}, {nan, 0}, {0, nan}, {nan, infinite(x.w)}, {infinite(x.w), nan}, {nan, canonical(x.w)}} {
				if n, trap := Apply(x.op, c[0], c[1]); n != number(x.does == "ne") || trap != api.NoTrap {
					t.Errorf("%s of %x and %x: %d %d", x.name, c[0], c[1], n, trap)
				}
			}
		}
	}
}

// P14.2, what is no number

// What is reckoned with no number is the canonical NaN; what touches signs alone, or hands on the bits, keeps the others.
func TestNoNumber(t *testing.T) {
	count := 0
	for _, x := range instructions() {
		if !isFloat(x.in) || !isFloat(x.out) || among(x.does, "abs neg copysign") {
			continue
		}
		count++
		for _, nan := range noNumbers(x.w) {
			pairs := [][2]uint64{{nan, floatOf(x.w, 1)}, {nan, nan}}
			if x.n == 2 {
				pairs = append(pairs, [2]uint64{floatOf(x.w, 1), nan}, [2]uint64{infinite(x.w), nan})
			}
			for _, c := range pairs {
				if n, trap := Apply(x.op, c[0], c[1]); n != canonical(x.to) || trap != api.NoTrap {
					t.Errorf("%s of %x and %x: %x %d", x.name, c[0], c[1], n, trap)
				}
			}
		}
	}
	if count != 24 {
		t.Error("instructions:", count)
	}
}

func TestSignsOfNoNumber(t *testing.T) {
	for _, x := range instructions() {
		if !isFloat(x.in) || !among(x.does, "abs neg copysign") {
			continue
		}
		for _, nan := range noNumbers(x.w) {
			for _, b := range []uint64{0, top(x.w), canonical(x.w), canonical(x.w) | top(x.w)} {
				want := nan &^ top(x.w)
				switch x.does {
				case "neg":
					want = nan ^ top(x.w)
				case "copysign":
					want |= b & top(x.w)
				}
				if n, trap := Apply(x.op, nan, b); n != want || trap != api.NoTrap {
					t.Errorf("%s of %x and %x: %x %d", x.name, nan, b, n, trap)
				}
			}
		}
	}
}

// There and back again the bits are what they were, NaNs' too.
func TestReinterpret(t *testing.T) {
	for _, c := range []struct {
		w           int
		there, back string
	}{
		{api.W32, "i32.reinterpret_f32", "f32.reinterpret_i32"},
		{api.W64, "i64.reinterpret_f64", "f64.reinterpret_i64"},
	} {
		for _, a := range append(append(floats(c.w), noNumbers(c.w)...), wholes(c.w)...) {
			for _, name := range []string{c.there, c.back} {
				if n, trap := Apply(opOf(t, name), a, 0); n != a || trap != api.NoTrap {
					t.Errorf("%s of %x: %x %d", name, a, n, trap)
				}
			}
		}
	}
}

// What stops at an end is what the one that traps answers, where that answers anything; else an end, or 0 of no number.
func TestStopsWhereOthersTrap(t *testing.T) {
	for _, x := range instructions() {
		if x.does != "trunc_sat" {
			continue
		}
		other := opOf(t, strings.Replace(x.name, "_sat", "", 1))
		low, high := chop.Ends(x.to, x.signed)
		for _, a := range operandsOf(x) {
			want, trap := Apply(other, a, 0)
			switch {
			case trap == api.TrapOverflow && a&top(x.w) != 0:
				want = low
			case trap == api.TrapOverflow:
				want = high
			}
			if n, trap := Apply(x.op, a, 0); n != want || trap != api.NoTrap {
				t.Errorf("%s of %x: %x %d, not %x", x.name, a, n, trap, want)
			}
		}
	}
}

// P14.2, operands

// What lies above the operands' width changes nothing, in either operand, nor does the second of one operand.
func TestBitsAbove(t *testing.T) {
	for _, x := range instructions() {
		for i, c := range pairs(x) {
			if i%7 != 0 {
				continue
			}
			want, wantTrap := Apply(x.op, c[0], c[1])
			for _, high := range above(x.w) {
				for _, other := range above(x.w) {
					if n, trap := Apply(x.op, c[0]|high, c[1]|other); n != want || trap != wantTrap {
						t.Fatalf("%s of %x and %x: %x %d, not %x %d", x.name, c[0]|high, c[1]|other, n, trap, want, wantTrap)
					}
				}
			}
		}
	}
}

func TestSecondOfOne(t *testing.T) {
	count := 0
	for _, x := range instructions() {
		if x.n == 2 {
			continue
		}
		count++
		for _, a := range operandsOf(x) {
			want, wantTrap := Apply(x.op, a, 0)
			for _, b := range append([]uint64{1, 1 << 31, 1 << 32, 1 << 63, math.MaxUint64, canonical(32), canonical(64)}, words(3)...) {
				if n, trap := Apply(x.op, a, b); n != want || trap != wantTrap {
					t.Fatalf("%s of %x, beside %x: %x %d, not %x %d", x.name, a, b, n, trap, want, wantTrap)
				}
			}
		}
	}
	if count != 55 {
		t.Error("instructions of one operand:", count)
	}
}

// P14.3

func TestNothingAbove(t *testing.T) {
	for _, x := range instructions() {
		most := all(x.to)
		if among(x.does, "eqz eq ne lt gt le ge") {
			most = 1
		}
		for _, c := range pairs(x) {
			for _, high := range above(x.w) {
				if n, _ := Apply(x.op, c[0]|high, c[1]|high); n > most {
					t.Fatalf("%s of %x and %x: %x", x.name, c[0]|high, c[1]|high, n)
				}
			}
		}
	}
}

// Each of those that may trap does so of some operands, none of the others of any, and what traps answers 0.
func TestTraps(t *testing.T) {
	for _, x := range instructions() {
		traps := map[api.Trap]int{}
		for _, c := range pairs(x) {
			n, trap := Apply(x.op, c[0], c[1])
			traps[trap]++
			if trap != api.NoTrap && n != 0 {
				t.Fatalf("%s of %x and %x: %x %d", x.name, c[0], c[1], n, trap)
			}
		}
		may := map[api.Trap]bool{api.NoTrap: true}
		switch {
		case x.does == "div" && !isFloat(x.in):
			may[api.TrapDivide], may[api.TrapOverflow] = true, x.signed
		case x.does == "rem":
			may[api.TrapDivide] = true
		case x.does == "trunc" && x.in != x.out:
			may[api.TrapConvert], may[api.TrapOverflow] = true, true
		}
		for trap := api.NoTrap; trap <= api.TrapHost; trap++ {
			if traps[trap] > 0 != may[trap] {
				t.Errorf("%s: trap %d came %d times", x.name, trap, traps[trap])
			}
			delete(traps, trap)
		}
		if len(traps) > 0 {
			t.Errorf("%s: no traps: %v", x.name, traps)
		}
	}
}
