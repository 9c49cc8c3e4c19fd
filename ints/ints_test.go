package ints

import (
	"math"
	"math/big"
	"math/bits"
	"strconv"
	"strings"
	"testing"

	"trunnion/api"
)

var (
	widths = []int{api.W32, api.W64}
	signs  = []bool{false, true}
)

// notWidths: numbers that are no width, those near to one and those far away.
var notWidths = []int{0, 1, -1, 7, 8, 9, 16, 23, 31, 33, 52, 63, 65, 96, 128, -32, -64, 32 + 1<<32, 64 + 1<<32, math.MaxInt, math.MinInt}

// plain: the functions of two numbers that answer a number.
var plain = []struct {
	name string
	f    func(w int, a, b uint64) uint64
}{
	{"Add", Add}, {"Sub", Sub}, {"Mul", Mul},
	{"Shl", Shl}, {"ShrS", ShrS}, {"ShrU", ShrU}, {"Rotl", Rotl}, {"Rotr", Rotr},
}

// trapping: those that may trap.
var trapping = []struct {
	name string
	f    func(w int, a, b uint64) (uint64, api.Trap)
}{
	{"DivS", DivS}, {"DivU", DivU}, {"RemS", RemS}, {"RemU", RemU},
}

// counts: the functions of one number.
var counts = []struct {
	name string
	f    func(w int, a uint64) uint64
}{
	{"Clz", Clz}, {"Ctz", Ctz}, {"Popcnt", Popcnt},
}

// asked: those that say yes or no.
var asked = []struct {
	name string
	f    func(w int, a, b uint64) bool
}{
	{"LtS", LtS}, {"LtU", LtU},
}

// all: the number of that width whose bits are all 1: the greatest one, and minus one.
func all(w int) uint64 { return math.MaxUint64 >> (64 - w) }

// least: the least number with a sign: its sign's bit alone.
func least(w int) uint64 { return 1 << (w - 1) }

// most: the greatest number with a sign.
func most(w int) uint64 { return least(w) - 1 }

// minus: the number -n.
func minus(w int, n uint64) uint64 { return all(w) - n + 1 }

// words: numbers of 64 bits without a pattern, the same at each run.
func words(n int) []uint64 {
	l := make([]uint64, n)
	x := uint64(0x9e3779b97f4a7c15)
	for i := range l {
		x ^= x << 13
		x ^= x >> 7
		x ^= x << 17
		l[i] = x
	}
	return l
}

// numbers: the edges of a width, each bit alone, each row of ones that begins or ends with it, and some without a pattern, long and short.
func numbers(w int) []uint64 {
	l := []uint64{0, 1, 2, 3, 5, 7, 10, 100, 65535, 65537, all(w) / 3, all(w) / 5, most(w) - 1, least(w) + 1}
	for _, n := range []uint64{1, 2, 3, 5, 7, 10, 100, 65536} {
		l = append(l, minus(w, n))
	}
	for i := range w {
		bit := uint64(1) << i
		l = append(l, bit, bit-1, minus(w, bit), all(w)-bit)
	}
	for i, n := range words(40) {
		l = append(l, n&all(w)>>(i%w))
	}
	return l
}

// fewer: some of these numbers, edges among them, for what is asked of many pairs.
func fewer(w int) []uint64 {
	l := []uint64{0, 1, 2, 3, most(w) - 1, most(w), least(w), least(w) + 1, all(w) - 1, all(w), all(w) / 3, all(w) / 3 * 2}
	for _, n := range words(12) {
		l = append(l, n&all(w))
	}
	return l
}

// shiftings: what is shifted by: all that is less than a width, 0 and a width with what is beside them, and numbers of 64 bits.
func shiftings(w int) []uint64 {
	l := []uint64{1 << 31, 1<<31 + 5, 1<<32 - 1, 1 << 32, 1<<32 + 1, 1<<32 + 31, 1<<32 + 32, 1<<32 + 33, 1<<33 - 1, 1 << 63, 1<<63 + 7, math.MaxUint64, math.MaxUint64 - 1, math.MaxUint64 - 62}
	for i := range 4*w + 2 {
		l = append(l, uint64(i))
	}
	return append(l, words(20)...)
}

// above: the number with other bits above its width, if there is room for them.
func above(w int, a uint64) []uint64 {
	if w == api.W64 {
		return []uint64{a}
	}
	return []uint64{a, a | 1<<32, a | 1<<63, a | 0xffffffff<<32, a | 0x7fffffff<<32, a | 0x9e3779b9<<32}
}

// unsigned: the lowest bits as a number without an end.
func unsigned(w int, a uint64) *big.Int { return new(big.Int).SetUint64(a & all(w)) }

// signed: the same with a sign.
func signed(w int, a uint64) *big.Int {
	n := unsigned(w, a)
	if a&least(w) != 0 {
		n.Sub(n, modulus(w))
	}
	return n
}

// modulus: 2^w.
func modulus(w int) *big.Int { return new(big.Int).Lsh(big.NewInt(1), uint(w)) }

// modulo: the number's bits, modulo 2^w.
func modulo(w int, n *big.Int) uint64 { return new(big.Int).Mod(n, modulus(w)).Uint64() }

// digits: the bits of a number, the highest first.
func digits(w int, a uint64) string {
	s := strconv.FormatUint(a&all(w), 2)
	return strings.Repeat("0", w-len(s)) + s
}

// ofDigits: the number of these bits.
func ofDigits(t *testing.T, s string) uint64 {
	t.Helper()
	n, err := strconv.ParseUint(s, 2, 64)
	if err != nil {
		t.Fatal(err)
	}
	return n
}

// check holds a number against what is wanted.
func check(t *testing.T, name string, w int, a, b, got, want uint64) {
	t.Helper()
	if got != want {
		t.Fatalf("%s of %x and %x in %d bits: %x, not %x", name, a, b, w, got, want)
	}
}

// checkTrap holds a number and a trap against what is wanted.
func checkTrap(t *testing.T, name string, w int, a, b, got uint64, why api.Trap, want uint64, trap api.Trap) {
	t.Helper()
	if got != want || why != trap {
		t.Fatalf("%s of %x and %x in %d bits: %x and trap %d, not %x and %d", name, a, b, w, got, why, want, trap)
	}
}

// checkDivisions holds a quotient and what is left by it against what is wanted.
func checkDivisions(t *testing.T, w int, a, b uint64, signed bool, quotient uint64, trap api.Trap, rest uint64, restTrap api.Trap) {
	t.Helper()
	if signed {
		q, why := DivS(w, a, b)
		checkTrap(t, "DivS", w, a, b, q, why, quotient, trap)
		r, why := RemS(w, a, b)
		checkTrap(t, "RemS", w, a, b, r, why, rest, restTrap)
		return
	}
	q, why := DivU(w, a, b)
	checkTrap(t, "DivU", w, a, b, q, why, quotient, trap)
	r, why := RemU(w, a, b)
	checkTrap(t, "RemU", w, a, b, r, why, rest, restTrap)
}

// The chapter's examples

func TestExamples(t *testing.T) {
	got, trap := DivS(api.W32, 4294967289, 2)
	checkTrap(t, "DivS", api.W32, 4294967289, 2, got, trap, 4294967293, api.NoTrap)
	check(t, "ShrS", api.W32, 2147483648, 33, ShrS(api.W32, 2147483648, 33), 3221225472)
}

// TestExamplesOfTheWhole: the first two of DOC.md, as far as they are sums, and the next chapter's.
func TestExamplesOfTheWhole(t *testing.T) {
	check(t, "Add", api.W32, 2, 3, Add(api.W32, 2, 3), 5)
	check(t, "Add", api.W32, 4294967295, 2, Add(api.W32, 4294967295, 2), 1)
	check(t, "Add", api.W32, 4294967295, 1, Add(api.W32, 4294967295, 1), 0)
	got, trap := DivU(api.W32, 5, 0)
	checkTrap(t, "DivU", api.W32, 5, 0, got, trap, 0, api.TrapDivide)
}

// P13.1, by hand

// TestSumsByHand: both widths have these numbers, those below nought among them.
func TestSumsByHand(t *testing.T) {
	for _, c := range []struct{ a, b, sum, difference, product int64 }{
		{0, 0, 0, 0, 0},
		{1, 0, 1, 1, 0},
		{0, 1, 1, -1, 0},
		{2, 3, 5, -1, 6},
		{7, 5, 12, 2, 35},
		{-1, 1, 0, -2, -1},
		{1, -1, 0, 2, -1},
		{-1, -1, -2, 0, 1},
		{-7, 5, -2, -12, -35},
		{7, -5, 2, 12, -35},
		{-7, -5, -12, -2, 35},
		{1000, 1000, 2000, 0, 1000000},
		{46340, 46340, 92680, 0, 2147395600},
	} {
		for _, w := range widths {
			a, b := uint64(c.a)&all(w), uint64(c.b)&all(w)
			check(t, "Add", w, a, b, Add(w, a, b), uint64(c.sum)&all(w))
			check(t, "Sub", w, a, b, Sub(w, a, b), uint64(c.difference)&all(w))
			check(t, "Mul", w, a, b, Mul(w, a, b), uint64(c.product)&all(w))
		}
	}
}

// TestSumsAtTheEnds: what leaves the range comes in at the other end.
func TestSumsAtTheEnds(t *testing.T) {
	for _, w := range widths {
		for _, c := range []struct{ a, b, sum, difference, product uint64 }{
			{all(w), 1, 0, all(w) - 1, all(w)},
			{1, all(w), 0, 2, all(w)},
			{0, all(w), all(w), 1, 0},
			{all(w), all(w), all(w) - 1, 0, 1},
			{most(w), 1, least(w), most(w) - 1, most(w)},
			{least(w), 1, least(w) + 1, most(w), least(w)},
			{0, least(w), least(w), least(w), 0},
			{least(w), least(w), 0, 0, 0},
			{least(w), all(w), most(w), least(w) + 1, least(w)},
			{least(w), most(w), all(w), 1, least(w)},
			{most(w), most(w), all(w) - 1, 0, 1},
			{most(w), least(w), all(w), all(w), least(w)},
			{least(w), 2, least(w) + 2, least(w) - 2, 0},
			{1 << (w / 2), 1 << (w / 2), 2 << (w / 2), 0, 0},
			{1 << (w / 2), 1<<(w/2) + 1, 2<<(w/2) + 1, all(w), 1 << (w / 2)},
		} {
			check(t, "Add", w, c.a, c.b, Add(w, c.a, c.b), c.sum)
			check(t, "Sub", w, c.a, c.b, Sub(w, c.a, c.b), c.difference)
			check(t, "Mul", w, c.a, c.b, Mul(w, c.a, c.b), c.product)
		}
	}
}

// TestSignedDivisionsByHand: toward nought, and what is left has the sign of what is divided.
func TestSignedDivisionsByHand(t *testing.T) {
	for _, c := range []struct{ a, b, quotient, rest int64 }{
		{0, 1, 0, 0},
		{0, -1, 0, 0},
		{0, 7, 0, 0},
		{1, 1, 1, 0},
		{1, -1, -1, 0},
		{-1, 1, -1, 0},
		{-1, -1, 1, 0},
		{7, 2, 3, 1},
		{-7, 2, -3, -1},
		{7, -2, -3, 1},
		{-7, -2, 3, -1},
		{6, 3, 2, 0},
		{-6, 3, -2, 0},
		{6, -3, -2, 0},
		{-6, -3, 2, 0},
		{2, 3, 0, 2},
		{-2, 3, 0, -2},
		{2, -3, 0, 2},
		{-2, -3, 0, -2},
		{1, 2, 0, 1},
		{-1, 2, 0, -1},
		{100, 7, 14, 2},
		{-100, 7, -14, -2},
		{100, -7, -14, 2},
		{-100, -7, 14, -2},
		{math.MaxInt32, 2, 1073741823, 1},
		{math.MaxInt32, -1, -math.MaxInt32, 0},
		{math.MaxInt32, math.MinInt32, 0, math.MaxInt32},
		{math.MinInt32, 1, math.MinInt32, 0},
		{math.MinInt32, 2, -1073741824, 0},
		{math.MinInt32, 3, -715827882, -2},
		{math.MinInt32, -2, 1073741824, 0},
		{math.MinInt32, -3, 715827882, -2},
		{math.MinInt32, math.MaxInt32, -1, -1},
		{math.MinInt32, -math.MaxInt32, 1, -1},
		{math.MinInt32, math.MinInt32, 1, 0},
		{-math.MaxInt32, -1, math.MaxInt32, 0},
		{-math.MaxInt32, math.MinInt32, 0, -math.MaxInt32},
		{-1, math.MinInt32, 0, -1},
		{1, math.MinInt32, 0, 1},
	} {
		for _, w := range widths {
			a, b := uint64(c.a)&all(w), uint64(c.b)&all(w)
			checkDivisions(t, w, a, b, true, uint64(c.quotient)&all(w), api.NoTrap, uint64(c.rest)&all(w), api.NoTrap)
		}
	}
	for _, c := range []struct{ a, b, quotient, rest int64 }{
		{math.MinInt32, -1, 1 << 31, 0},
		{1 << 31, -1, math.MinInt32, 0},
		{math.MaxInt64, 2, 4611686018427387903, 1},
		{math.MaxInt64, -1, -math.MaxInt64, 0},
		{math.MaxInt64, math.MinInt64, 0, math.MaxInt64},
		{math.MinInt64, 1, math.MinInt64, 0},
		{math.MinInt64, -2, 1 << 62, 0},
		{math.MinInt64, 3, -3074457345618258602, -2},
		{math.MinInt64, math.MaxInt64, -1, -1},
		{math.MinInt64, math.MinInt64, 1, 0},
		{-math.MaxInt64, -1, math.MaxInt64, 0},
	} {
		checkDivisions(t, api.W64, uint64(c.a), uint64(c.b), true, uint64(c.quotient), api.NoTrap, uint64(c.rest), api.NoTrap)
	}
}

// TestUnsignedDivisionsByHand: what has its highest bit set is a great number here.
func TestUnsignedDivisionsByHand(t *testing.T) {
	for _, w := range widths {
		for _, c := range []struct{ a, b, quotient, rest uint64 }{
			{0, 1, 0, 0},
			{1, 1, 1, 0},
			{7, 2, 3, 1},
			{6, 3, 2, 0},
			{2, 3, 0, 2},
			{100, 7, 14, 2},
			{0, all(w), 0, 0},
			{1, all(w), 0, 1},
			{all(w), 1, all(w), 0},
			{all(w), 2, most(w), 1},
			{all(w), 3, all(w) / 3, 0},
			{all(w), all(w) - 1, 1, 1},
			{all(w), all(w), 1, 0},
			{all(w) - 1, all(w), 0, all(w) - 1},
			{least(w), 1, least(w), 0},
			{least(w), 2, 1 << (w - 2), 0},
			{least(w), all(w), 0, least(w)},
			{least(w), most(w), 1, 1},
			{least(w), least(w), 1, 0},
			{most(w), least(w), 0, most(w)},
			{all(w), least(w), 1, most(w)},
			{minus(w, 7), 2, most(w) - 3, 1},
			{7, minus(w, 2), 0, 7},
			{minus(w, 7), minus(w, 2), 0, minus(w, 7)},
			{minus(w, 2), minus(w, 7), 1, 5},
		} {
			checkDivisions(t, w, c.a, c.b, false, c.quotient, api.NoTrap, c.rest, api.NoTrap)
		}
	}
}

// P13.1

// TestSums: modulo 2^w, held against numbers without an end.
func TestSums(t *testing.T) {
	for _, w := range widths {
		for _, a := range numbers(w) {
			for _, b := range numbers(w) {
				x, y := unsigned(w, a), unsigned(w, b)
				check(t, "Add", w, a, b, Add(w, a, b), modulo(w, new(big.Int).Add(x, y)))
				check(t, "Sub", w, a, b, Sub(w, a, b), modulo(w, new(big.Int).Sub(x, y)))
				check(t, "Mul", w, a, b, Mul(w, a, b), modulo(w, new(big.Int).Mul(x, y)))
			}
		}
	}
}

// TestDivisions: quotients toward nought and what is left by them, held against numbers without an end.
func TestDivisions(t *testing.T) {
	for _, w := range widths {
		greatest := new(big.Int).SetUint64(most(w))
		for _, a := range numbers(w) {
			for _, b := range numbers(w) {
				if b == 0 {
					continue
				}
				quotient, rest := new(big.Int).QuoRem(unsigned(w, a), unsigned(w, b), new(big.Int))
				checkDivisions(t, w, a, b, false, modulo(w, quotient), api.NoTrap, modulo(w, rest), api.NoTrap)
				quotient, rest = new(big.Int).QuoRem(signed(w, a), signed(w, b), new(big.Int))
				if quotient.Cmp(greatest) > 0 {
					checkDivisions(t, w, a, b, true, 0, api.TrapOverflow, 0, api.NoTrap)
					continue
				}
				checkDivisions(t, w, a, b, true, modulo(w, quotient), api.NoTrap, modulo(w, rest), api.NoTrap)
			}
		}
	}
}

// TestByNought: all four trap, whatever is divided, and so they do by a number whose lowest bits are 0.
func TestByNought(t *testing.T) {
	for _, w := range widths {
		for _, a := range numbers(w) {
			for _, b := range above(w, 0) {
				for _, signed := range signs {
					checkDivisions(t, w, a, b, signed, 0, api.TrapDivide, 0, api.TrapDivide)
				}
			}
		}
	}
	for _, signed := range signs {
		checkDivisions(t, api.W32, 5, 1<<32, signed, 0, api.TrapDivide, 0, api.TrapDivide)
		checkDivisions(t, api.W64, 5, 1<<32, signed, 0, api.NoTrap, 5, api.NoTrap)
		checkDivisions(t, api.W64, 1<<33, 1<<32, signed, 2, api.NoTrap, 0, api.NoTrap)
	}
}

// TestOverflow: the least number by minus one alone, with signs alone: nothing is left by it.
func TestOverflow(t *testing.T) {
	for _, w := range widths {
		for _, a := range above(w, least(w)) {
			for _, b := range above(w, all(w)) {
				checkDivisions(t, w, a, b, true, 0, api.TrapOverflow, 0, api.NoTrap)
				checkDivisions(t, w, a, b, false, 0, api.NoTrap, least(w), api.NoTrap)
			}
		}
		for _, a := range numbers(w) {
			if a == least(w) {
				continue
			}
			checkDivisions(t, w, a, all(w), true, modulo(w, new(big.Int).Neg(signed(w, a))), api.NoTrap, 0, api.NoTrap)
		}
		for _, b := range numbers(w) {
			if _, trap := DivS(w, least(w), b); trap == api.TrapOverflow && b != all(w) {
				t.Errorf("%x of %d bits: overflow", b, w)
			}
		}
	}
	// The least one of the other width is none here.
	checkDivisions(t, api.W64, 1<<31, math.MaxUint64, true, minus(api.W64, 1<<31), api.NoTrap, 0, api.NoTrap)
	checkDivisions(t, api.W64, minus(api.W64, 1<<31), math.MaxUint64, true, 1<<31, api.NoTrap, 0, api.NoTrap)
	checkDivisions(t, api.W64, 1<<63, 1<<32-1, true, modulo(api.W64, big.NewInt(math.MinInt64/(1<<32-1))), api.NoTrap, modulo(api.W64, big.NewInt(math.MinInt64%(1<<32-1))), api.NoTrap)
	checkDivisions(t, api.W32, 1<<63, 1<<32-1, true, 0, api.NoTrap, 0, api.NoTrap)
}

// TestRestsSign: what is left has a's sign, and is nearer to nought than b.
func TestRestsSign(t *testing.T) {
	for _, w := range widths {
		for _, a := range numbers(w) {
			for _, b := range numbers(w) {
				if b == 0 {
					continue
				}
				n, _ := RemS(w, a, b)
				rest := signed(w, n)
				if rest.Sign() != 0 && rest.Sign() != signed(w, a).Sign() {
					t.Fatalf("%x by %x in %d bits: %x is left", a, b, w, n)
				}
				if rest.CmpAbs(signed(w, b)) >= 0 {
					t.Fatalf("%x by %x in %d bits: %x is left", a, b, w, n)
				}
			}
		}
	}
}

// P13.2, by hand

// TestShiftsByHand: by 0, by 1, by what a width has but 1, by a width, and by more.
func TestShiftsByHand(t *testing.T) {
	for _, c := range []struct {
		w                   int
		a, b                uint64
		left, right, signed uint64
	}{
		{api.W32, 1, 0, 1, 1, 1},
		{api.W32, 1, 1, 2, 0, 0},
		{api.W32, 6, 1, 12, 3, 3},
		{api.W32, 0x80000001, 0, 0x80000001, 0x80000001, 0x80000001},
		{api.W32, 0x80000001, 1, 2, 0x40000000, 0xc0000000},
		{api.W32, 0x80000001, 31, 0x80000000, 1, 0xffffffff},
		{api.W32, 0x80000001, 32, 0x80000001, 0x80000001, 0x80000001},
		{api.W32, 0x80000001, 33, 2, 0x40000000, 0xc0000000},
		{api.W32, 0x80000001, 63, 0x80000000, 1, 0xffffffff},
		{api.W32, 0x80000001, 64, 0x80000001, 0x80000001, 0x80000001},
		{api.W32, 0x80000001, 1 << 32, 0x80000001, 0x80000001, 0x80000001},
		{api.W32, 0x80000001, 1<<32 + 1, 2, 0x40000000, 0xc0000000},
		{api.W32, 0x80000001, math.MaxUint64, 0x80000000, 1, 0xffffffff},
		{api.W32, 0x7fffffff, 1, 0xfffffffe, 0x3fffffff, 0x3fffffff},
		{api.W32, 0x7fffffff, 30, 0xc0000000, 1, 1},
		{api.W32, 0x7fffffff, 31, 0x80000000, 0, 0},
		{api.W32, 0xffffffff, 4, 0xfffffff0, 0x0fffffff, 0xffffffff},
		{api.W32, 0x12345678, 8, 0x34567800, 0x123456, 0x123456},
		{api.W32, 0x92345678, 8, 0x34567800, 0x923456, 0xff923456},
		{api.W64, 1, 0, 1, 1, 1},
		{api.W64, 1, 31, 1 << 31, 0, 0},
		{api.W64, 1, 32, 1 << 32, 0, 0},
		{api.W64, 1, 33, 1 << 33, 0, 0},
		{api.W64, 1<<63 + 1, 0, 1<<63 + 1, 1<<63 + 1, 1<<63 + 1},
		{api.W64, 1<<63 + 1, 1, 2, 1 << 62, 3 << 62},
		{api.W64, 1<<63 + 1, 63, 1 << 63, 1, math.MaxUint64},
		{api.W64, 1<<63 + 1, 64, 1<<63 + 1, 1<<63 + 1, 1<<63 + 1},
		{api.W64, 1<<63 + 1, 65, 2, 1 << 62, 3 << 62},
		{api.W64, 1<<63 + 1, 1 << 32, 1<<63 + 1, 1<<63 + 1, 1<<63 + 1},
		{api.W64, 1<<63 + 1, 1 << 63, 1<<63 + 1, 1<<63 + 1, 1<<63 + 1},
		{api.W64, 1<<63 + 1, math.MaxUint64, 1 << 63, 1, math.MaxUint64},
		{api.W64, 0x923456789abcdef0, 8, 0x3456789abcdef000, 0x923456789abcde, 0xff923456789abcde},
		{api.W64, 0x80000000, 1, 0x100000000, 0x40000000, 0x40000000},
	} {
		check(t, "Shl", c.w, c.a, c.b, Shl(c.w, c.a, c.b), c.left)
		check(t, "ShrU", c.w, c.a, c.b, ShrU(c.w, c.a, c.b), c.right)
		check(t, "ShrS", c.w, c.a, c.b, ShrS(c.w, c.a, c.b), c.signed)
	}
}

// TestTurnsByHand: what goes out at one end comes in at the other.
func TestTurnsByHand(t *testing.T) {
	for _, c := range []struct {
		w           int
		a, b        uint64
		left, right uint64
	}{
		{api.W32, 1, 0, 1, 1},
		{api.W32, 1, 1, 2, 0x80000000},
		{api.W32, 0x80000001, 1, 3, 0xc0000000},
		{api.W32, 0x12345678, 4, 0x23456781, 0x81234567},
		{api.W32, 0x12345678, 8, 0x34567812, 0x78123456},
		{api.W32, 0x12345678, 16, 0x56781234, 0x56781234},
		{api.W32, 0x12345678, 28, 0x81234567, 0x23456781},
		{api.W32, 1, 31, 0x80000000, 2},
		{api.W32, 0x12345678, 32, 0x12345678, 0x12345678},
		{api.W32, 0x12345678, 36, 0x23456781, 0x81234567},
		{api.W32, 0x12345678, 1<<32 + 4, 0x23456781, 0x81234567},
		{api.W32, 1, math.MaxUint64, 0x80000000, 2},
		{api.W64, 1, 0, 1, 1},
		{api.W64, 1, 1, 2, 1 << 63},
		{api.W64, 1<<63 + 1, 1, 3, 3 << 62},
		{api.W64, 0x123456789abcdef0, 4, 0x23456789abcdef01, 0x0123456789abcdef},
		{api.W64, 0x123456789abcdef0, 32, 0x9abcdef012345678, 0x9abcdef012345678},
		{api.W64, 0x123456789abcdef0, 36, 0xabcdef0123456789, 0x89abcdef01234567},
		{api.W64, 1, 63, 1 << 63, 2},
		{api.W64, 0x123456789abcdef0, 64, 0x123456789abcdef0, 0x123456789abcdef0},
		{api.W64, 0x123456789abcdef0, 68, 0x23456789abcdef01, 0x0123456789abcdef},
		{api.W64, 0x123456789abcdef0, 1 << 32, 0x123456789abcdef0, 0x123456789abcdef0},
		{api.W64, 1, math.MaxUint64, 1 << 63, 2},
	} {
		check(t, "Rotl", c.w, c.a, c.b, Rotl(c.w, c.a, c.b), c.left)
		check(t, "Rotr", c.w, c.a, c.b, Rotr(c.w, c.a, c.b), c.right)
	}
}

// TestCountsByHand: nought, one bit at each place, all ones, and rows of bits.
func TestCountsByHand(t *testing.T) {
	for _, w := range widths {
		size := uint64(w)
		for _, c := range []struct{ a, upper, lower, ones uint64 }{
			{0, size, size, 0},
			{all(w), 0, 0, size},
			{least(w), 0, size - 1, 1},
			{most(w), 1, 0, size - 1},
			{all(w) - 1, 0, 1, size - 1},
			{3, size - 2, 0, 2},
			{6, size - 3, 1, 2},
			{0x50, size - 7, 4, 2},
			{0x0ff0, size - 12, 4, 8},
			{least(w) + 1, 0, 0, 2},
			{all(w) / 3, 1, 0, size / 2},
			{all(w) / 3 * 2, 0, 1, size / 2},
		} {
			check(t, "Clz", w, c.a, 0, Clz(w, c.a), c.upper)
			check(t, "Ctz", w, c.a, 0, Ctz(w, c.a), c.lower)
			check(t, "Popcnt", w, c.a, 0, Popcnt(w, c.a), c.ones)
		}
		for i := range size {
			bit := uint64(1) << i
			check(t, "Clz", w, bit, 0, Clz(w, bit), size-1-i)
			check(t, "Ctz", w, bit, 0, Ctz(w, bit), i)
			check(t, "Popcnt", w, bit, 0, Popcnt(w, bit), 1)
		}
	}
	for _, a := range above(api.W32, 0) {
		check(t, "Clz", api.W32, a, 0, Clz(api.W32, a), 32)
		check(t, "Ctz", api.W32, a, 0, Ctz(api.W32, a), 32)
		check(t, "Popcnt", api.W32, a, 0, Popcnt(api.W32, a), 0)
	}
}

// P13.2

// TestShifts: a times 2^b modulo 2^w, and by 2^b, down, b being modulo w; held against numbers without an end.
func TestShifts(t *testing.T) {
	for _, w := range widths {
		for _, a := range numbers(w) {
			for _, b := range shiftings(w) {
				by := uint(b % uint64(w))
				check(t, "Shl", w, a, b, Shl(w, a, b), modulo(w, new(big.Int).Lsh(unsigned(w, a), by)))
				check(t, "ShrU", w, a, b, ShrU(w, a, b), modulo(w, new(big.Int).Rsh(unsigned(w, a), by)))
				check(t, "ShrS", w, a, b, ShrS(w, a, b), modulo(w, new(big.Int).Rsh(signed(w, a), by)))
			}
		}
	}
}

// TestTurns: the digits turned, held against them.
func TestTurns(t *testing.T) {
	for _, w := range widths {
		for _, a := range fewer(w) {
			s := digits(w, a)
			for _, b := range shiftings(w) {
				by := int(b % uint64(w))
				check(t, "Rotl", w, a, b, Rotl(w, a, b), ofDigits(t, s[by:]+s[:by]))
				check(t, "Rotr", w, a, b, Rotr(w, a, b), ofDigits(t, s[w-by:]+s[:w-by]))
			}
		}
		for i := range w {
			for j := range w {
				bit := uint64(1) << i
				check(t, "Rotl", w, bit, uint64(j), Rotl(w, bit, uint64(j)), 1<<((i+j)%w))
				check(t, "Rotr", w, bit, uint64(j), Rotr(w, bit, uint64(j)), 1<<((i-j+w)%w))
			}
		}
	}
}

// TestCounts: the digits counted, held against them.
func TestCounts(t *testing.T) {
	for _, w := range widths {
		for _, a := range append(numbers(w), words(1000)...) {
			s := digits(w, a)
			check(t, "Clz", w, a, 0, Clz(w, a), uint64(w-len(strings.TrimLeft(s, "0"))))
			check(t, "Ctz", w, a, 0, Ctz(w, a), uint64(w-len(strings.TrimRight(s, "0"))))
			check(t, "Popcnt", w, a, 0, Popcnt(w, a), uint64(strings.Count(s, "1")))
		}
	}
}

// P13.3, by hand

func TestBelowByHand(t *testing.T) {
	for _, w := range widths {
		for _, c := range []struct {
			a, b        uint64
			signed, not bool
		}{
			{0, 0, false, false},
			{0, 1, true, true},
			{1, 0, false, false},
			{1, 2, true, true},
			{2, 1, false, false},
			{5, 5, false, false},
			{all(w), 0, true, false},
			{0, all(w), false, true},
			{all(w), 1, true, false},
			{1, all(w), false, true},
			{all(w), all(w), false, false},
			{all(w) - 1, all(w), true, true},
			{all(w), all(w) - 1, false, false},
			{least(w), most(w), true, false},
			{most(w), least(w), false, true},
			{least(w), 0, true, false},
			{0, least(w), false, true},
			{least(w), least(w), false, false},
			{least(w), least(w) + 1, true, true},
			{least(w), all(w), true, true},
			{all(w), least(w), false, false},
			{most(w), most(w), false, false},
			{most(w) - 1, most(w), true, true},
			{0, most(w), true, true},
			{most(w), 0, false, false},
			{most(w), all(w), false, true},
			{all(w), most(w), true, false},
		} {
			if got := LtS(w, c.a, c.b); got != c.signed {
				t.Errorf("LtS of %x and %x in %d bits: %t", c.a, c.b, w, got)
			}
			if got := LtU(w, c.a, c.b); got != c.not {
				t.Errorf("LtU of %x and %x in %d bits: %t", c.a, c.b, w, got)
			}
		}
	}
}

// TestExtendByHand: the highest of the lowest bits is 0 or 1, and what is above them isn't looked at.
func TestExtendByHand(t *testing.T) {
	for _, c := range []struct {
		w, from     int
		a           uint64
		signed, not uint64
	}{
		{api.W32, 8, 0, 0, 0},
		{api.W32, 8, 0x7f, 0x7f, 0x7f},
		{api.W32, 8, 0x80, 0xffffff80, 0x80},
		{api.W32, 8, 0xff, 0xffffffff, 0xff},
		{api.W32, 8, 0x17f, 0x7f, 0x7f},
		{api.W32, 8, 0xffffff00, 0, 0},
		{api.W32, 8, math.MaxUint64 - 0x80, 0x7f, 0x7f},
		{api.W32, 8, math.MaxUint64 - 0x7f, 0xffffff80, 0x80},
		{api.W32, 16, 0, 0, 0},
		{api.W32, 16, 0x80, 0x80, 0x80},
		{api.W32, 16, 0x7fff, 0x7fff, 0x7fff},
		{api.W32, 16, 0x8000, 0xffff8000, 0x8000},
		{api.W32, 16, 0xffff, 0xffffffff, 0xffff},
		{api.W32, 16, 0x17fff, 0x7fff, 0x7fff},
		{api.W32, 16, 0xabcd9234, 0xffff9234, 0x9234},
		{api.W32, 32, 0, 0, 0},
		{api.W32, 32, 0x8000, 0x8000, 0x8000},
		{api.W32, 32, 0x7fffffff, 0x7fffffff, 0x7fffffff},
		{api.W32, 32, 0x80000000, 0x80000000, 0x80000000},
		{api.W32, 32, 0xffffffff, 0xffffffff, 0xffffffff},
		{api.W32, 32, 0x1_80000000, 0x80000000, 0x80000000},
		{api.W32, 64, 0, 0, 0},
		{api.W32, 64, 5, 0, 0},
		{api.W32, 64, math.MaxUint64, 0, 0},
		{api.W64, 8, 0, 0, 0},
		{api.W64, 8, 0x7f, 0x7f, 0x7f},
		{api.W64, 8, 0x80, 0xffffffffffffff80, 0x80},
		{api.W64, 8, 0xff, math.MaxUint64, 0xff},
		{api.W64, 8, 0x17f, 0x7f, 0x7f},
		{api.W64, 16, 0x7fff, 0x7fff, 0x7fff},
		{api.W64, 16, 0x8000, 0xffffffffffff8000, 0x8000},
		{api.W64, 16, 0xffff, math.MaxUint64, 0xffff},
		{api.W64, 16, 0x17fff, 0x7fff, 0x7fff},
		{api.W64, 32, 0x7fffffff, 0x7fffffff, 0x7fffffff},
		{api.W64, 32, 0x80000000, 0xffffffff80000000, 0x80000000},
		{api.W64, 32, 0xffffffff, math.MaxUint64, 0xffffffff},
		{api.W64, 32, 0x1_7fffffff, 0x7fffffff, 0x7fffffff},
		{api.W64, 64, 0, 0, 0},
		{api.W64, 64, 1<<63 - 1, 1<<63 - 1, 1<<63 - 1},
		{api.W64, 64, 1 << 63, 1 << 63, 1 << 63},
		{api.W64, 64, math.MaxUint64, math.MaxUint64, math.MaxUint64},
	} {
		check(t, "Extend, signed,", c.w, c.a, uint64(c.from), Extend(c.w, c.from, c.a, true), c.signed)
		check(t, "Extend", c.w, c.a, uint64(c.from), Extend(c.w, c.from, c.a, false), c.not)
	}
}

// P13.3

// TestBelow: held against numbers without an end.
func TestBelow(t *testing.T) {
	for _, w := range widths {
		for _, a := range numbers(w) {
			for _, b := range numbers(w) {
				if got, want := LtS(w, a, b), signed(w, a).Cmp(signed(w, b)) < 0; got != want {
					t.Fatalf("LtS of %x and %x in %d bits: %t", a, b, w, got)
				}
				if got, want := LtU(w, a, b), unsigned(w, a).Cmp(unsigned(w, b)) < 0; got != want {
					t.Fatalf("LtU of %x and %x in %d bits: %t", a, b, w, got)
				}
			}
		}
	}
}

// TestExtend: held against numbers without an end, and all of 8 and 16 bits against Go's own.
func TestExtend(t *testing.T) {
	for _, w := range widths {
		for _, from := range []int{8, 16, 32, 64} {
			if from > w {
				continue
			}
			for _, a := range append(append(numbers(from), numbers(api.W64)...), words(1000)...) {
				check(t, "Extend, signed,", w, a, uint64(from), Extend(w, from, a, true), modulo(w, signed(from, a)))
				check(t, "Extend", w, a, uint64(from), Extend(w, from, a, false), modulo(w, unsigned(from, a)))
			}
		}
		for n := range 1 << 16 {
			a := uint64(n)
			check(t, "Extend, signed,", w, a, 8, Extend(w, 8, a, true), uint64(int8(n))&all(w))
			check(t, "Extend", w, a, 8, Extend(w, 8, a, false), uint64(uint8(n)))
			check(t, "Extend, signed,", w, a, 16, Extend(w, 16, a, true), uint64(int16(n))&all(w))
			check(t, "Extend", w, a, 16, Extend(w, 16, a, false), a)
		}
	}
}

// TestExtendFromOthers: 0 of all but the four, and of the greatest of them for a number of 32 bits.
func TestExtendFromOthers(t *testing.T) {
	others := []int{8 + 1<<32, 16 + 1<<32, 32 + 1<<32, 64 + 1<<32, 8 + math.MinInt, 64 + math.MinInt, math.MaxInt, math.MinInt, math.MinInt + 1, -8, -16, -32, -64, -128}
	for from := -3; from < 300; from++ {
		if from != 8 && from != 16 && from != 32 && from != 64 {
			others = append(others, from)
		}
	}
	for _, signed := range signs {
		for _, a := range append(words(10), 0, 1, 0x80, 0x8000, 1<<31, 1<<32, 1<<63, math.MaxUint64) {
			for _, from := range others {
				for _, w := range widths {
					if got := Extend(w, from, a, signed); got != 0 {
						t.Fatalf("Extend of %x from %d in %d bits: %x", a, from, w, got)
					}
				}
			}
			check(t, "Extend", api.W32, a, 64, Extend(api.W32, 64, a, signed), 0)
		}
	}
}

// P13.4

// TestDivisionsTogether: a quotient times what it is by, and what is left, is what was divided.
func TestDivisionsTogether(t *testing.T) {
	for _, w := range widths {
		for _, a := range numbers(w) {
			for _, b := range numbers(w) {
				if b == 0 {
					continue
				}
				quotient, trap := DivU(w, a, b)
				rest, why := RemU(w, a, b)
				if got := Add(w, Mul(w, quotient, b), rest); got != a || trap != api.NoTrap || why != api.NoTrap {
					t.Fatalf("%x by %x in %d bits: %x and %x are %x, traps %d and %d", a, b, w, quotient, rest, got, trap, why)
				}
				if !LtU(w, rest, b) {
					t.Fatalf("%x by %x in %d bits: %x is left", a, b, w, rest)
				}
				if a == least(w) && b == all(w) {
					continue
				}
				quotient, trap = DivS(w, a, b)
				rest, why = RemS(w, a, b)
				if got := Add(w, Mul(w, quotient, b), rest); got != a || trap != api.NoTrap || why != api.NoTrap {
					t.Fatalf("%x by %x in %d bits, signed: %x and %x are %x, traps %d and %d", a, b, w, quotient, rest, got, trap, why)
				}
			}
		}
	}
}

// TestTurnedBack: what is turned one way is turned back, and by what is left of the width it goes the other way.
func TestTurnedBack(t *testing.T) {
	for _, w := range widths {
		for _, a := range fewer(w) {
			for _, b := range shiftings(w) {
				check(t, "Rotr of Rotl", w, a, b, Rotr(w, Rotl(w, a, b), b), a)
				check(t, "Rotl of Rotr", w, a, b, Rotl(w, Rotr(w, a, b), b), a)
				check(t, "Rotl by the rest", w, a, b, Rotl(w, a, uint64(w)-b%uint64(w)), Rotr(w, a, b))
			}
		}
	}
}

// TestBitsAreAll: bits that are 1 and those that are 0 are all of them, and those at the ends are among them.
func TestBitsAreAll(t *testing.T) {
	for _, w := range widths {
		for _, a := range append(numbers(w), words(1000)...) {
			if got := Popcnt(w, a) + Popcnt(w, ^a); got != uint64(w) {
				t.Fatalf("%x in %d bits: %d bits", a, w, got)
			}
			if Clz(w, a) != 0 && Clz(w, ^a) != 0 || Ctz(w, a) != 0 && Ctz(w, ^a) != 0 {
				t.Fatalf("%x in %d bits: an end that is neither 0 nor 1", a, w)
			}
			if a&all(w) != 0 && Clz(w, a)+Ctz(w, a)+Popcnt(w, a) > uint64(w) {
				t.Fatalf("%x in %d bits: more bits than there are", a, w)
			}
		}
	}
}

// TestGosOwn: all of it held against Go's own arithmetic, by many numbers without a pattern.
func TestGosOwn(t *testing.T) {
	l := words(4000)
	for i, a := range l[1:] {
		b := l[i] >> (i % 64)
		x, y, m, n := uint32(a), uint32(b), int32(a), int32(b)
		by := b % 32
		check(t, "Add", api.W32, a, b, Add(api.W32, a, b), uint64(x+y))
		check(t, "Sub", api.W32, a, b, Sub(api.W32, a, b), uint64(x-y))
		check(t, "Mul", api.W32, a, b, Mul(api.W32, a, b), uint64(x*y))
		check(t, "Shl", api.W32, a, b, Shl(api.W32, a, b), uint64(x<<by))
		check(t, "ShrU", api.W32, a, b, ShrU(api.W32, a, b), uint64(x>>by))
		check(t, "ShrS", api.W32, a, b, ShrS(api.W32, a, b), uint64(uint32(m>>by)))
		check(t, "Rotl", api.W32, a, b, Rotl(api.W32, a, b), uint64(bits.RotateLeft32(x, int(by))))
		check(t, "Rotr", api.W32, a, b, Rotr(api.W32, a, b), uint64(bits.RotateLeft32(x, -int(by))))
		check(t, "Clz", api.W32, a, b, Clz(api.W32, a), uint64(bits.LeadingZeros32(x)))
		check(t, "Ctz", api.W32, a, b, Ctz(api.W32, a), uint64(bits.TrailingZeros32(x)))
		check(t, "Popcnt", api.W32, a, b, Popcnt(api.W32, a), uint64(bits.OnesCount32(x)))
		if LtU(api.W32, a, b) != (x < y) || LtS(api.W32, a, b) != (m < n) {
			t.Fatalf("%x and %x of 32 bits: below", a, b)
		}
		if y != 0 {
			checkDivisions(t, api.W32, a, b, false, uint64(x/y), api.NoTrap, uint64(x%y), api.NoTrap)
			checkDivisions(t, api.W32, a, b, true, uint64(uint32(m/n)), api.NoTrap, uint64(uint32(m%n)), api.NoTrap)
		}
		by = b % 64
		check(t, "Add", api.W64, a, b, Add(api.W64, a, b), a+b)
		check(t, "Sub", api.W64, a, b, Sub(api.W64, a, b), a-b)
		check(t, "Mul", api.W64, a, b, Mul(api.W64, a, b), a*b)
		check(t, "Shl", api.W64, a, b, Shl(api.W64, a, b), a<<by)
		check(t, "ShrU", api.W64, a, b, ShrU(api.W64, a, b), a>>by)
		check(t, "ShrS", api.W64, a, b, ShrS(api.W64, a, b), uint64(int64(a)>>by))
		check(t, "Rotl", api.W64, a, b, Rotl(api.W64, a, b), bits.RotateLeft64(a, int(by)))
		check(t, "Rotr", api.W64, a, b, Rotr(api.W64, a, b), bits.RotateLeft64(a, -int(by)))
		check(t, "Clz", api.W64, a, b, Clz(api.W64, a), uint64(bits.LeadingZeros64(a)))
		check(t, "Ctz", api.W64, a, b, Ctz(api.W64, a), uint64(bits.TrailingZeros64(a)))
		check(t, "Popcnt", api.W64, a, b, Popcnt(api.W64, a), uint64(bits.OnesCount64(a)))
		if LtU(api.W64, a, b) != (a < b) || LtS(api.W64, a, b) != (int64(a) < int64(b)) {
			t.Fatalf("%x and %x of 64 bits: below", a, b)
		}
		if b != 0 {
			checkDivisions(t, api.W64, a, b, false, a/b, api.NoTrap, a%b, api.NoTrap)
			checkDivisions(t, api.W64, a, b, true, uint64(int64(a)/int64(b)), api.NoTrap, uint64(int64(a)%int64(b)), api.NoTrap)
		}
	}
}

// The chapter's words

// TestAbove: bits above the width are cut off, in either operand and in both, and none is answered.
func TestAbove(t *testing.T) {
	w := api.W32
	for _, a := range fewer(w) {
		for _, b := range fewer(w) {
			for _, x := range above(w, a) {
				for _, y := range above(w, b) {
					for _, f := range plain {
						check(t, f.name, w, x, y, f.f(w, x, y), f.f(w, a, b))
					}
					for _, f := range trapping {
						want, trap := f.f(w, a, b)
						got, why := f.f(w, x, y)
						checkTrap(t, f.name, w, x, y, got, why, want, trap)
					}
					for _, f := range asked {
						if f.f(w, x, y) != f.f(w, a, b) {
							t.Fatalf("%s of %x and %x in %d bits", f.name, x, y, w)
						}
					}
				}
			}
		}
		for _, x := range above(w, a) {
			for _, f := range counts {
				check(t, f.name, w, x, 0, f.f(w, x), f.f(w, a))
			}
			for _, from := range []int{8, 16, 32} {
				for _, signed := range signs {
					check(t, "Extend", w, x, uint64(from), Extend(w, from, x, signed), Extend(w, from, a, signed))
				}
			}
		}
	}
}

// TestNoneAbove: what is answered has no bit above its width.
func TestNoneAbove(t *testing.T) {
	w := api.W32
	l := append(words(60), 0, 1, 2, 31, 1<<31-1, 1<<31, 1<<32-1, 1<<32, 1<<63, math.MaxUint64)
	for _, a := range l {
		for _, b := range l {
			for _, f := range plain {
				if got := f.f(w, a, b); got > all(w) {
					t.Fatalf("%s of %x and %x: %x", f.name, a, b, got)
				}
			}
			for _, f := range trapping {
				if got, trap := f.f(w, a, b); got > all(w) || trap != api.NoTrap && got != 0 {
					t.Fatalf("%s of %x and %x: %x and trap %d", f.name, a, b, got, trap)
				}
			}
		}
		for _, signed := range signs {
			for _, from := range []int{8, 16, 32, 64} {
				if got := Extend(w, from, a, signed); got > all(w) {
					t.Fatalf("Extend of %x from %d: %x", a, from, got)
				}
			}
		}
	}
}

// TestAnotherWidth: of a w that is neither there are 0, false and NoTrap alone, by nought too.
func TestAnotherWidth(t *testing.T) {
	l := append(words(10), 0, 1, 2, 31, 1<<31-1, 1<<31, 1<<32-1, 1<<32, 1<<63-1, 1<<63, math.MaxUint64)
	for _, w := range notWidths {
		for _, a := range l {
			for _, b := range l {
				for _, f := range plain {
					check(t, f.name, w, a, b, f.f(w, a, b), 0)
				}
				for _, f := range trapping {
					got, trap := f.f(w, a, b)
					checkTrap(t, f.name, w, a, b, got, trap, 0, api.NoTrap)
				}
				for _, f := range asked {
					if f.f(w, a, b) {
						t.Fatalf("%s of %x and %x in %d bits", f.name, a, b, w)
					}
				}
			}
			for _, f := range counts {
				check(t, f.name, w, a, 0, f.f(w, a), 0)
			}
			for _, signed := range signs {
				for _, from := range append([]int{8, 16, 32, 64, w}, notWidths...) {
					check(t, "Extend", w, a, uint64(from), Extend(w, from, a, signed), 0)
				}
			}
		}
	}
}
