package whole

import (
	"math"
	"math/big"
	"testing"

	"trunnion/api"
)

var widths = []int{api.W32, api.W64}

// notWidths: numbers that are no width, those near to one and those far away.
var notWidths = []int{0, 1, -1, 7, 8, 9, 16, 23, 31, 33, 52, 63, 65, 96, 128, -32, -64, 32 + 1<<32, 64 + 1<<32, math.MaxInt, math.MinInt}

// layout: the sizes of a width's fields, written out once more.
func layout(w int) (e, f int) {
	if w == api.W32 {
		return 8, 23
	}
	return 11, 52
}

// minus: the sign of a float of that width.
func minus(w int) uint64 { return 1 << (w - 1) }

// infinite: the infinite one without a sign.
func infinite(w int) uint64 {
	e, f := layout(w)
	return (1<<e - 1) << f
}

// canonical: the canonical NaN.
func canonical(w int) uint64 {
	_, f := layout(w)
	return infinite(w) | 1<<(f-1)
}

// one: the float 1.
func one(w int) uint64 {
	e, f := layout(w)
	return (1<<(e-1) - 1) << f
}

// isNumber: whether these bits of a float are not those of no number.
func isNumber(w int, x uint64) bool { return x&^minus(w) <= infinite(w) }

// isFinite: whether they are those of a number that isn't infinite.
func isFinite(w int, x uint64) bool { return x&^minus(w) < infinite(w) }

// words: numbers of 64 bits without a pattern, the same at each run.
func words(n int) []uint64 {
	l := make([]uint64, n)
	x := uint64(0x9e3779b97f4a7c15)
	for i := range l {
		x ^= x << 13
		x ^= x >> 7
		x ^= x << 17
		l[i] = x
	}
	return l
}

// number: the float that Go makes of the bits. Each float of 32 bits is one of 64.
func number(w int, x uint64) float64 {
	if w == api.W32 {
		return float64(math.Float32frombits(uint32(x)))
	}
	return math.Float64frombits(x)
}

// bitsOf: the bits of a float of 64 bits that is one of that width too; of no number those of the canonical one.
func bitsOf(w int, x float64) uint64 {
	switch {
	case x != x:
		return canonical(w)
	case w == api.W32:
		return uint64(math.Float32bits(float32(x)))
	}
	return math.Float64bits(x)
}

// signed: the floats, and beside each of them the one of the other sign.
func signed(w int, l []uint64) []uint64 {
	var both []uint64
	for _, x := range l {
		both = append(both, x, x^minus(w))
	}
	return both
}

// fractions: the edges of a fraction's field, each of its bits alone, each row of ones that begins or ends with it, and some numbers between.
func fractions(w int) []uint64 {
	_, f := layout(w)
	all := uint64(1)<<f - 1
	l := []uint64{0, 3, 5, all - 1, all - 2}
	for i := range f {
		bit := uint64(1) << i
		l = append(l, bit, bit|1, bit-1, all&^(bit-1), all&^bit)
	}
	for _, n := range words(8) {
		l = append(l, n&all)
	}
	return l
}

// exponents: the exponent's fields, all of those of numbers that have bits on both sides of one, with some beyond, and both ends.
func exponents(w int) []uint64 {
	e, f := layout(w)
	bias := uint64(1)<<(e-1) - 1
	last := uint64(1)<<e - 1
	l := []uint64{0, 1, 2, 3, bias / 2, bias + bias/2, last - 2, last - 1, last}
	for exp := bias - 5; exp < bias+uint64(f)+70 && exp < last-2; exp++ {
		l = append(l, exp)
	}
	return l
}

// everywhere: floats of either sign with these fields: noughts, subnormal ones, infinite ones and such as are no number among them.
func everywhere(w int) []uint64 {
	_, f := layout(w)
	var l []uint64
	for _, exp := range exponents(w) {
		for _, frac := range fractions(w) {
			l = append(l, exp<<f|frac)
		}
	}
	return signed(w, l)
}

// noNumbers: what is no number, of either sign: the canonical one, and each bit of the fraction's field alone.
func noNumbers(w int) []uint64 {
	_, f := layout(w)
	l := []uint64{canonical(w), canonical(w) + 1, canonical(w) - 1, infinite(w) | (1<<f - 1)}
	for i := range f {
		l = append(l, infinite(w)|1<<i)
	}
	return signed(w, l)
}

// answers are what the four make of a float, and whether it is whole.
type answers struct {
	ceil, floor, trunc, nearest uint64
	whole                       bool
}

// same: what is answered of a float that stays what it is.
func same(x uint64, whole bool) answers { return answers{x, x, x, x, whole} }

// answered: what the functions make of a float.
func answered(w int, a uint64) answers {
	return answers{Ceil(w, a), Floor(w, a), Trunc(w, a), Nearest(w, a), IsWhole(w, a)}
}

// check holds what the functions make against what is wanted.
func check(t *testing.T, w int, a uint64, want answers) {
	t.Helper()
	if got := answered(w, a); got != want {
		t.Fatalf("%d %x: %#v, not %#v", w, a, got, want)
	}
}

// checkBoth holds it against that, and the float of the other sign against what follows of it: Ceil and Floor changed about, all of them with the other sign.
func checkBoth(t *testing.T, w int, a uint64, want answers) {
	t.Helper()
	check(t, w, a, want)
	s := minus(w)
	check(t, w, a^s, answers{want.floor ^ s, want.ceil ^ s, want.trunc ^ s, want.nearest ^ s, want.whole})
}

// goAnswers: what Go's own floats make of it.
func goAnswers(w int, a uint64) answers {
	x := number(w, a)
	return answers{
		ceil:    bitsOf(w, math.Ceil(x)),
		floor:   bitsOf(w, math.Floor(x)),
		trunc:   bitsOf(w, math.Trunc(x)),
		nearest: bitsOf(w, math.RoundToEven(x)),
		whole:   x == math.Trunc(x) && !math.IsInf(x, 0),
	}
}

// floatOf: the float of a whole number that is one, with that sign.
func floatOf(t *testing.T, w int, n *big.Int, neg bool) uint64 {
	t.Helper()
	x, how := new(big.Float).SetInt(n).Float64()
	if how != big.Exact || float64(float32(x)) != x && w == api.W32 {
		t.Fatalf("%d: %v is no float", w, n)
	}
	return bitsOf(w, math.Abs(x)) | signOf(w, neg)
}

// signOf: the sign, if there is to be one.
func signOf(w int, neg bool) uint64 {
	if neg {
		return minus(w)
	}
	return 0
}

// exactAnswers: what the promise's words make of a finite one, by whole numbers without an end. Halves tell what is nearest.
func exactAnswers(t *testing.T, w int, a uint64) answers {
	t.Helper()
	x := new(big.Rat).SetFloat64(number(w, a))
	neg := a&minus(w) != 0
	// Div is down, as what is below is above nought.
	floor := new(big.Int).Div(x.Num(), x.Denom())
	ceil := new(big.Int).Set(floor)
	if !x.IsInt() {
		ceil.Add(ceil, big.NewInt(1))
	}
	trunc := floor
	if neg {
		trunc = ceil
	}
	below := new(big.Rat).Sub(x, new(big.Rat).SetInt(floor))
	nearest := floor
	switch below.Cmp(big.NewRat(1, 2)) {
	case 1:
		nearest = ceil
	case 0:
		if floor.Bit(0) == 1 {
			nearest = ceil
		}
	}
	return answers{
		ceil:    floatOf(t, w, ceil, neg),
		floor:   floatOf(t, w, floor, neg),
		trunc:   floatOf(t, w, trunc, neg),
		nearest: floatOf(t, w, nearest, neg),
		whole:   x.IsInt(),
	}
}

// P9.1 and P9.2, by hand

func TestExamples(t *testing.T) {
	for _, c := range []struct {
		name      string
		got, want uint64
	}{
		{"Nearest of 2.5", Nearest(api.W64, 0x4004000000000000), 0x4000000000000000},
		{"Nearest of -0.5", Nearest(api.W64, 0xbfe0000000000000), 1 << 63},
		{"Ceil of -0.5", Ceil(api.W64, 0xbfe0000000000000), 1 << 63},
	} {
		if c.got != c.want {
			t.Errorf("%s: %x, not %x", c.name, c.got, c.want)
		}
	}
}

// TestByHand: each row once more with the other sign.
func TestByHand(t *testing.T) {
	for _, c := range []struct {
		w                              int
		a, ceil, floor, trunc, nearest uint64
	}{
		{api.W32, 0x40200000, 0x40400000, 0x40000000, 0x40000000, 0x40000000}, // 2.5
		{api.W32, 0x40600000, 0x40800000, 0x40400000, 0x40400000, 0x40800000}, // 3.5, whose next one has a bit more
		{api.W32, 0x40900000, 0x40a00000, 0x40800000, 0x40800000, 0x40800000}, // 4.5
		{api.W32, 0x3fc00000, 0x40000000, 0x3f800000, 0x3f800000, 0x40000000}, // 1.5
		{api.W32, 0x3fa00000, 0x40000000, 0x3f800000, 0x3f800000, 0x3f800000}, // 1.25
		{api.W32, 0x3fe00000, 0x40000000, 0x3f800000, 0x3f800000, 0x40000000}, // 1.75
		{api.W32, 0x40e66666, 0x41000000, 0x40e00000, 0x40e00000, 0x40e00000}, // 7.2
		{api.W32, 0x40f9999a, 0x41000000, 0x40e00000, 0x40e00000, 0x41000000}, // 7.8, whose next one has a bit more
		{api.W32, 0x42f70000, 0x42f80000, 0x42f60000, 0x42f60000, 0x42f80000}, // 123.5
		{api.W32, 0x42f90000, 0x42fa0000, 0x42f80000, 0x42f80000, 0x42f80000}, // 124.5
		{api.W32, 0x42f8ffff, 0x42fa0000, 0x42f80000, 0x42f80000, 0x42f80000}, // a float below that
		{api.W32, 0x42f90001, 0x42fa0000, 0x42f80000, 0x42f80000, 0x42fa0000}, // a float above that
		{api.W32, 0x3f000000, 0x3f800000, 0, 0, 0},                            // 0.5
		{api.W32, 0x3effffff, 0x3f800000, 0, 0, 0},                            // a float below that
		{api.W32, 0x3f000001, 0x3f800000, 0, 0, 0x3f800000},                   // a float above that
		{api.W32, 0x3e800000, 0x3f800000, 0, 0, 0},                            // 0.25
		{api.W32, 0x3f400000, 0x3f800000, 0, 0, 0x3f800000},                   // 0.75
		{api.W32, 0x3f7fffff, 0x3f800000, 0, 0, 0x3f800000},                   // a float below 1
		{api.W32, 0x3f800001, 0x40000000, 0x3f800000, 0x3f800000, 0x3f800000}, // a float above 1
		{api.W32, 0x3fffffff, 0x40000000, 0x3f800000, 0x3f800000, 0x40000000}, // a float below 2
		{api.W32, 1, 0x3f800000, 0, 0, 0},                                     // the least one
		{api.W32, 0x00400000, 0x3f800000, 0, 0, 0},                            // subnormal ones
		{api.W32, 0x007fffff, 0x3f800000, 0, 0, 0},
		{api.W32, 0x00800000, 0x3f800000, 0, 0, 0},                            // the least one that isn't
		{api.W32, 0x4affffff, 0x4b000000, 0x4afffffe, 0x4afffffe, 0x4b000000}, // 2^23 less a half: the greatest one that isn't whole
		{api.W32, 0x4afffffd, 0x4afffffe, 0x4afffffc, 0x4afffffc, 0x4afffffc}, // 2^23 less one and a half
		{api.W32, 0x4a7fffff, 0x4a800000, 0x4a7ffffc, 0x4a7ffffc, 0x4a800000}, // 2^22 less a quarter
		{api.W32, 0x4a7ffffd, 0x4a800000, 0x4a7ffffc, 0x4a7ffffc, 0x4a7ffffc}, // 2^22 less three quarters
		{api.W32, 0x4a7ffffe, 0x4a800000, 0x4a7ffffc, 0x4a7ffffc, 0x4a800000}, // 2^22 less a half
		{api.W64, 0x4004000000000000, 0x4008000000000000, 0x4000000000000000, 0x4000000000000000, 0x4000000000000000},
		{api.W64, 0x400c000000000000, 0x4010000000000000, 0x4008000000000000, 0x4008000000000000, 0x4010000000000000},
		{api.W64, 0x4012000000000000, 0x4014000000000000, 0x4010000000000000, 0x4010000000000000, 0x4010000000000000},
		{api.W64, 0x3ff8000000000000, 0x4000000000000000, 0x3ff0000000000000, 0x3ff0000000000000, 0x4000000000000000},
		{api.W64, 0x3ff4000000000000, 0x4000000000000000, 0x3ff0000000000000, 0x3ff0000000000000, 0x3ff0000000000000},
		{api.W64, 0x3ffc000000000000, 0x4000000000000000, 0x3ff0000000000000, 0x3ff0000000000000, 0x4000000000000000},
		{api.W64, 0x401ccccccccccccd, 0x4020000000000000, 0x401c000000000000, 0x401c000000000000, 0x401c000000000000},
		{api.W64, 0x401f333333333333, 0x4020000000000000, 0x401c000000000000, 0x401c000000000000, 0x4020000000000000},
		{api.W64, 0x3fe0000000000000, 0x3ff0000000000000, 0, 0, 0},
		{api.W64, 0x3fdfffffffffffff, 0x3ff0000000000000, 0, 0, 0},
		{api.W64, 0x3fe0000000000001, 0x3ff0000000000000, 0, 0, 0x3ff0000000000000},
		{api.W64, 0x3fefffffffffffff, 0x3ff0000000000000, 0, 0, 0x3ff0000000000000},
		{api.W64, 0x3ff0000000000001, 0x4000000000000000, 0x3ff0000000000000, 0x3ff0000000000000, 0x3ff0000000000000},
		{api.W64, 0x3fffffffffffffff, 0x4000000000000000, 0x3ff0000000000000, 0x3ff0000000000000, 0x4000000000000000},
		{api.W64, 1, 0x3ff0000000000000, 0, 0, 0},
		{api.W64, 0x0008000000000000, 0x3ff0000000000000, 0, 0, 0},
		{api.W64, 0x000fffffffffffff, 0x3ff0000000000000, 0, 0, 0},
		{api.W64, 0x0010000000000000, 0x3ff0000000000000, 0, 0, 0},
		{api.W64, 0x432fffffffffffff, 0x4330000000000000, 0x432ffffffffffffe, 0x432ffffffffffffe, 0x4330000000000000}, // 2^52 less a half
		{api.W64, 0x432ffffffffffffd, 0x432ffffffffffffe, 0x432ffffffffffffc, 0x432ffffffffffffc, 0x432ffffffffffffc},
		{api.W64, 0x431fffffffffffff, 0x4320000000000000, 0x431ffffffffffffc, 0x431ffffffffffffc, 0x4320000000000000},
		{api.W64, 0x431ffffffffffffd, 0x4320000000000000, 0x431ffffffffffffc, 0x431ffffffffffffc, 0x431ffffffffffffc},
		{api.W64, 0x431ffffffffffffe, 0x4320000000000000, 0x431ffffffffffffc, 0x431ffffffffffffc, 0x4320000000000000},
		{api.W64, 0x3f800000, 0x3ff0000000000000, 0, 0, 0}, // 1 of 32 bits, but subnormal of 64
		{api.W64, 0x7fc00000, 0x3ff0000000000000, 0, 0, 0}, // no number of 32 bits
	} {
		checkBoth(t, c.w, c.a, answers{c.ceil, c.floor, c.trunc, c.nearest, false})
	}
}

// TestWholeByHand: they stay what they are, of either sign.
func TestWholeByHand(t *testing.T) {
	for _, c := range []struct {
		w int
		a uint64
	}{
		{api.W32, 0},
		{api.W32, 0x3f800000}, // 1
		{api.W32, 0x40000000}, // 2
		{api.W32, 0x40400000}, // 3
		{api.W32, 0x42f60000}, // 123
		{api.W32, 0x4a7ffffc}, // 2^22 less 1
		{api.W32, 0x4a800000}, // 2^22
		{api.W32, 0x4a800002}, // 2^22 and 1
		{api.W32, 0x4afffffe}, // 2^23 less 1
		{api.W32, 0x4b000000}, // 2^23
		{api.W32, 0x4b000001}, // 2^23 and 1
		{api.W32, 0x4b7fffff}, // 2^24 less 1
		{api.W32, 0x4b800000}, // 2^24
		{api.W32, 0x4b800001}, // 2^24 and 2
		{api.W32, 0x5f000000}, // 2^63
		{api.W32, 0x5f800001}, // above 2^64
		{api.W32, 0x7effffff},
		{api.W32, 0x7f7fffff}, // the greatest finite one
		{api.W64, 0},
		{api.W64, 0x3ff0000000000000},
		{api.W64, 0x4000000000000000},
		{api.W64, 0x4008000000000000},
		{api.W64, 0x405ec00000000000},
		{api.W64, 0x431ffffffffffffc}, // 2^51 less 1
		{api.W64, 0x432ffffffffffffe}, // 2^52 less 1
		{api.W64, 0x4330000000000000}, // 2^52
		{api.W64, 0x4330000000000001}, // 2^52 and 1
		{api.W64, 0x433fffffffffffff}, // 2^53 less 1
		{api.W64, 0x4340000000000001}, // 2^53 and 2
		{api.W64, 0x43e0000000000000}, // 2^63
		{api.W64, 0x43f0000000000001}, // above 2^64
		{api.W64, 0x47f0000000000001}, // above 2^128
		{api.W64, 0x7fefffffffffffff},
	} {
		checkBoth(t, c.w, c.a, same(c.a, true))
	}
}

// P9.1

// TestNoNumber: whatever its bits and its sign, the canonical one; and it isn't whole.
func TestNoNumber(t *testing.T) {
	for _, w := range widths {
		for _, none := range noNumbers(w) {
			check(t, w, none, same(canonical(w), false))
		}
	}
}

// TestInfinite: they stay what they are, and aren't whole.
func TestInfinite(t *testing.T) {
	for _, w := range widths {
		checkBoth(t, w, infinite(w), same(infinite(w), false))
	}
}

// TestNoughts: they stay what they are, and are whole.
func TestNoughts(t *testing.T) {
	for _, w := range widths {
		checkBoth(t, w, 0, same(0, true))
	}
}

// TestBetweenOnes: between -1 and 1 there is nothing but nought of the number's sign, and one; above a half Nearest goes there.
func TestBetweenOnes(t *testing.T) {
	for _, w := range widths {
		_, f := layout(w)
		half := one(w) - 1<<f
		var l []uint64
		for exp := range one(w) >> f {
			for _, frac := range []uint64{0, 1, 2, 1 << (f - 1), 1<<f - 2, 1<<f - 1} {
				l = append(l, exp<<f|frac)
			}
		}
		for _, x := range l {
			if x == 0 {
				continue
			}
			want := answers{ceil: one(w)}
			if x > half {
				want.nearest = one(w)
			}
			checkBoth(t, w, x, want)
		}
	}
}

// TestHalves: of n and a half the even one of n and the next; of the floats beside it the one on their side.
func TestHalves(t *testing.T) {
	for _, w := range widths {
		_, f := layout(w)
		// Of so few bits that a float has two more behind the half.
		some := []uint64{1, 2, 3, 4, 5, 6, 7, 8, 15, 16, 127, 128, 1 << 15, 1<<16 - 1}
		for i := range f - 2 {
			some = append(some, 1<<i, 1<<(i+1)-1, 1<<i|1)
		}
		for _, n := range words(200) {
			some = append(some, n>>(66-f))
		}
		for _, n := range some {
			x := float64(n)
			half, floor, ceil := bitsOf(w, x+0.5), bitsOf(w, x), bitsOf(w, x+1)
			even := floor
			if n%2 == 1 {
				even = ceil
			}
			checkBoth(t, w, half, answers{ceil, floor, floor, even, false})
			checkBoth(t, w, half-1, answers{ceil, floor, floor, floor, false})
			checkBoth(t, w, half+1, answers{ceil, floor, floor, ceil, false})
		}
	}
}

// TestOneBitMore: each power of two, and the floats that lie below it and above it.
func TestOneBitMore(t *testing.T) {
	for _, w := range widths {
		_, f := layout(w)
		for n := range f {
			power := one(w) + uint64(n)<<f
			below := bitsOf(w, number(w, power)-1)
			above := bitsOf(w, number(w, power)+1)
			checkBoth(t, w, power, same(power, true))
			checkBoth(t, w, power-1, answers{power, below, below, power, false})
			checkBoth(t, w, power+1, answers{above, power, power, power, false})
		}
	}
}

// TestLastBitBelowOne: 2^F is the first float from which on all of them are whole.
func TestLastBitBelowOne(t *testing.T) {
	for _, w := range widths {
		_, f := layout(w)
		first := one(w) + uint64(f)<<f
		checkBoth(t, w, first-1, answers{first, first - 2, first - 2, first, false})
		for _, n := range words(2000) {
			x := first + n%(infinite(w)-first)
			checkBoth(t, w, x, same(x, true))
		}
		for exp := first >> f; exp < infinite(w)>>f; exp++ {
			for _, frac := range []uint64{0, 1, 2, 3, 1<<f - 1} {
				checkBoth(t, w, exp<<f|frac, same(exp<<f|frac, true))
			}
		}
	}
}

// TestAgainstGo: floats of each exponent that matters, and without a pattern.
func TestAgainstGo(t *testing.T) {
	for _, w := range widths {
		_, f := layout(w)
		for _, x := range everywhere(w) {
			check(t, w, x, goAnswers(w, x))
		}
		for i, n := range words(60000) {
			x := n >> (64 - w)
			check(t, w, x, goAnswers(w, x))
			// Most exponents are those of numbers that lie below a half, or have no bit below one: these go from a quarter on.
			exp := uint64(i%(f+4))<<f + one(w) - 2<<f
			near := x&^infinite(w) | exp
			check(t, w, near, goAnswers(w, near))
		}
	}
}

// TestAgainstExact: the promise's words, by whole numbers without an end.
func TestAgainstExact(t *testing.T) {
	for _, w := range widths {
		_, f := layout(w)
		for i, x := range everywhere(w) {
			if isFinite(w, x) && i%3 == 0 {
				check(t, w, x, exactAnswers(t, w, x))
			}
		}
		for i, n := range words(6000) {
			// Fewer and fewer bits of the fraction's field are left, so that of some the last one is a half, or one.
			frac := n >> (64 - f) >> (i % f) << (i % f)
			exp := n%uint64(f+3)<<f + one(w) - 1<<f
			x := signOf(w, i%2 == 1) | exp | frac
			check(t, w, x, exactAnswers(t, w, x))
		}
	}
}

// P9.2

// TestQuarters: of a number of quarters each fourth one is whole.
func TestQuarters(t *testing.T) {
	for _, w := range widths {
		for n := range uint64(1 << 14) {
			x := bitsOf(w, float64(n)/4)
			for _, a := range []uint64{x, x | minus(w)} {
				if got := IsWhole(w, a); got != (n%4 == 0) {
					t.Fatalf("%d %d quarters, %x: %v", w, n, a, got)
				}
			}
		}
	}
}

// TestLastBits: a power of two and a lesser one, which is whole just if the lesser one is.
func TestLastBits(t *testing.T) {
	for _, w := range widths {
		_, f := layout(w)
		for top := range f + 1 {
			power := one(w) + uint64(top)<<f
			for bit := range f {
				// In this number the bit stands for 2^(top + bit - f).
				x := power | 1<<bit
				want := top+bit >= f
				if IsWhole(w, x) != want || IsWhole(w, x|minus(w)) != want {
					t.Fatalf("%d %x: not %v", w, x, want)
				}
			}
		}
	}
}

// P9.3

// TestWholeStays: what is whole stays what it is, with all of its bits; what the four answer of a finite one is whole, and stays too.
func TestWholeStays(t *testing.T) {
	for _, w := range widths {
		kept := 0
		for _, x := range everywhere(w) {
			if !isNumber(w, x) {
				continue
			}
			got := answered(w, x)
			if got.whole {
				kept++
				check(t, w, x, same(x, true))
			}
			for _, made := range []uint64{got.ceil, got.floor, got.trunc, got.nearest} {
				check(t, w, made, same(made, isFinite(w, x)))
			}
		}
		if kept < 1000 {
			t.Errorf("%d: only %d are whole", w, kept)
		}
	}
}

// TestEitherSide: each of the four is Floor or Ceil; Floor isn't above the number, Ceil isn't below it; of what isn't whole they are one apart, and the number lies between.
func TestEitherSide(t *testing.T) {
	for _, w := range widths {
		for _, x := range everywhere(w) {
			if !isNumber(w, x) {
				continue
			}
			got := answered(w, x)
			for _, made := range []uint64{got.trunc, got.nearest} {
				if made != got.floor && made != got.ceil {
					t.Fatalf("%d %x: %#v", w, x, got)
				}
			}
			low, high, is := number(w, got.floor), number(w, got.ceil), number(w, x)
			if !(low <= is && is <= high) {
				t.Fatalf("%d %x: from %v to %v", w, x, low, high)
			}
			if isFinite(w, x) && !got.whole && !(low < is && is < high && high-low == 1) {
				t.Fatalf("%d %x isn't whole: from %v to %v", w, x, low, high)
			}
		}
	}
}

// TestSigns: what is answered of a number has its sign, nought too.
func TestSigns(t *testing.T) {
	for _, w := range widths {
		for _, x := range everywhere(w) {
			if !isNumber(w, x) {
				continue
			}
			got := answered(w, x)
			for _, made := range []uint64{got.ceil, got.floor, got.trunc, got.nearest} {
				if (made^x)&minus(w) != 0 {
					t.Fatalf("%d %x: %#v", w, x, got)
				}
			}
		}
	}
}

// All of them

// TestBitsAbove: of 32 bits the upper half of what is handed in doesn't count, not even for a sign or for no number, and isn't handed out.
func TestBitsAbove(t *testing.T) {
	w := api.W32
	uppers := []uint64{1 << 32, 1 << 63, 0x3ff80000 << 32, 0x7ff00000 << 32, 0x7ff80001 << 32, 0xffffffff << 32}
	for _, x := range append(everywhere(w), noNumbers(w)...) {
		want := goAnswers(w, x)
		for _, upper := range uppers {
			check(t, w, upper|x, want)
		}
	}
}

// TestNoWidth: 0, and nothing is whole, nought neither.
func TestNoWidth(t *testing.T) {
	for _, w := range notWidths {
		for _, a := range []uint64{0, 1, 2, 4, 1 << 31, 1 << 63, 0x3f800000, 0x3fc00000, 0x7f800000, 0x7f800001, 0xff800000, 0x3ff0000000000000, 0x3ff8000000000000, 0x4330000000000000, 0x7ff0000000000000, 0xfff0000000000000, 0x7ff8000000000001, math.MaxUint64} {
			check(t, w, a, answers{})
		}
	}
}
