package quotient

import (
	"math"
	"math/big"
	"math/bits"
	"testing"

	"trunnion/api"
)

var (
	widths = []int{api.W32, api.W64}
	signs  = []bool{false, true}
)

// notWidths: numbers that are no width, those near to one and those far away.
var notWidths = []int{0, 1, -1, 7, 8, 16, 23, 31, 33, 52, 63, 65, 96, 128, -32, -64, 32 + 1<<32, 64 + 1<<32, math.MaxInt, math.MinInt}

// layout: the sizes of a width's fields, written out once more.
func layout(w int) (e, f int) {
	if w == api.W32 {
		return 8, 23
	}
	return 11, 52
}

// signBit: the sign of a float of that width.
func signBit(w int, neg bool) uint64 {
	if neg {
		return 1 << (w - 1)
	}
	return 0
}

// isNeg: whether the float has a sign.
func isNeg(w int, x uint64) bool { return x&signBit(w, true) != 0 }

// both: the sign that the signs of two make.
func both(w int, a, b uint64) uint64 { return signBit(w, isNeg(w, a) != isNeg(w, b)) }

// infinite: the infinite one without a sign.
func infinite(w int) uint64 {
	e, f := layout(w)
	return (1<<e - 1) << f
}

// canonical: the canonical NaN.
func canonical(w int) uint64 {
	_, f := layout(w)
	return infinite(w) | 1<<(f-1)
}

// one: the bits of 1.
func one(w int) uint64 {
	if w == api.W32 {
		return 0x3f800000
	}
	return 0x3ff0000000000000
}

// isNan: whether the float is no number.
func isNan(w int, x uint64) bool { return x&^signBit(w, true) > infinite(w) }

// isInf: whether the float is infinite, of either sign.
func isInf(w int, x uint64) bool { return x&^signBit(w, true) == infinite(w) }

// isNought: whether the float is nought, of either sign.
func isNought(w int, x uint64) bool { return x&^signBit(w, true) == 0 }

// isPlain: whether the float is finite and not nought.
func isPlain(w int, x uint64) bool { return !isNought(w, x) && x&^signBit(w, true) < infinite(w) }

// words: numbers of 64 bits without a pattern, the same at each run.
func words(n int) []uint64 {
	l := make([]uint64, n)
	x := uint64(0x9e3779b97f4a7c15)
	for i := range l {
		x ^= x << 13
		x ^= x >> 7
		x ^= x << 17
		l[i] = x
	}
	return l
}

// number: the float that Go makes of the bits. Each float of 32 bits is one of 64.
func number(w int, x uint64) float64 {
	if w == api.W32 {
		return float64(math.Float32frombits(uint32(x)))
	}
	return math.Float64frombits(x)
}

// power: the float n · 2^exp of what is one.
func power(t *testing.T, w int, n uint64, exp int) uint64 {
	t.Helper()
	x := math.Ldexp(float64(n), exp)
	if w == api.W64 {
		return math.Float64bits(x)
	}
	if float64(float32(x)) != x {
		t.Fatalf("%d times 2^%d is no float of 32 bits", n, exp)
	}
	return uint64(math.Float32bits(float32(x)))
}

// goQuotient: what Go's own floats make of it, of no number the canonical one.
func goQuotient(w int, a, b uint64) uint64 {
	var x uint64
	if w == api.W32 {
		x = uint64(math.Float32bits(math.Float32frombits(uint32(a)) / math.Float32frombits(uint32(b))))
	} else {
		x = math.Float64bits(math.Float64frombits(a) / math.Float64frombits(b))
	}
	if isNan(w, x) {
		return canonical(w)
	}
	return x
}

// exactQuotient: the quotient of two that are finite and not nought, made without a loss and rounded once.
func exactQuotient(w int, a, b uint64) uint64 {
	minus := signBit(w, true)
	above := new(big.Rat).SetFloat64(number(w, a&^minus))
	x := above.Quo(above, new(big.Rat).SetFloat64(number(w, b&^minus)))
	if w == api.W32 {
		r, _ := x.Float32()
		return both(w, a, b) | uint64(math.Float32bits(r))
	}
	r, _ := x.Float64()
	return both(w, a, b) | math.Float64bits(r)
}

// fractions: the edges of a fraction's field, and some numbers between.
func fractions(w int) []uint64 {
	_, f := layout(w)
	all := uint64(1)<<f - 1
	l := []uint64{0, 1, 2, 3, all >> 1, all>>1 + 1, all>>1 + 2, all>>2 + 1, all - 1, all}
	for _, n := range words(3) {
		l = append(l, n&all)
	}
	return l
}

// samples: floats of both signs, of the exponents' edges and of some between: noughts, infinite ones and such as are no number among them.
func samples(w int) []uint64 {
	e, f := layout(w)
	last := uint64(1)<<e - 1
	var l []uint64
	for _, exp := range []uint64{0, 1, 2, last / 4, last/2 - uint64(f) - 1, last/2 - 1, last / 2, last/2 + 1, last/2 + uint64(f), last / 4 * 3, last - 2, last - 1, last} {
		for _, frac := range fractions(w) {
			for _, neg := range signs {
				l = append(l, signBit(w, neg)|exp<<f|frac)
			}
		}
	}
	return l
}

// subnormal: floats below the least one that is not subnormal, of each highest bit.
func subnormal(w int) []uint64 {
	_, f := layout(w)
	var l []uint64
	random := words(f)
	for i := range f {
		top := uint64(1) << i
		l = append(l, top, top|top>>1, top|(top-1), top|random[i]&(top-1))
	}
	return l
}

// everywhere: floats of both signs and of each exponent's field, and of those below of each highest bit.
func everywhere(w int) []uint64 {
	e, f := layout(w)
	var l []uint64
	for _, neg := range signs {
		for exp := range uint64(1) << e {
			for _, frac := range fractions(w) {
				l = append(l, signBit(w, neg)|exp<<f|frac)
			}
		}
		for _, low := range subnormal(w) {
			l = append(l, signBit(w, neg)|low)
		}
	}
	return l
}

// noNumbers: some that are no number, of both signs.
func noNumbers(w int) []uint64 {
	_, f := layout(w)
	var l []uint64
	for _, neg := range signs {
		for _, frac := range []uint64{1, 2, 1<<(f-1) - 1, 1 << (f - 1), 1<<(f-1) + 1, 1<<f - 1} {
			l = append(l, signBit(w, neg)|infinite(w)|frac)
		}
	}
	return l
}

// checkQuotient holds the quotient of two against what is wanted.
func checkQuotient(t *testing.T, w int, a, b, want uint64) {
	t.Helper()
	if got := Div(w, a, b); got != want {
		t.Fatalf("%d %x by %x: %x, not %x", w, a, b, got, want)
	}
}

// checkInverse holds one by a float against what is wanted.
func checkInverse(t *testing.T, w int, a, want uint64) {
	t.Helper()
	if got := Inverse(w, a); got != want {
		t.Fatalf("%d one by %x: %x, not %x", w, a, got, want)
	}
}

// checkSigns holds the quotient of two against what is wanted, with each sign that they may have.
func checkSigns(t *testing.T, w int, a, b, want uint64) {
	t.Helper()
	minus := signBit(w, true)
	checkQuotient(t, w, a, b, want)
	checkQuotient(t, w, a^minus, b, want^minus)
	checkQuotient(t, w, a, b^minus, want^minus)
	checkQuotient(t, w, a^minus, b^minus, want)
}

// P6.1

func TestExamples(t *testing.T) {
	checkQuotient(t, api.W64, 0x3ff0000000000000, 0x4008000000000000, 4599676419421066581) // 1 by 3
	checkQuotient(t, api.W64, 0x3ff0000000000000, 1<<63, 0xfff0000000000000)               // 1 by -0
}

func TestByHand(t *testing.T) {
	for _, c := range []struct {
		w          int
		a, b, want uint64
	}{
		{api.W32, 0x3f800000, 0x3f800000, 0x3f800000},
		{api.W32, 0x40c00000, 0x40400000, 0x40000000}, // 6 by 3
		{api.W32, 0x41200000, 0x40800000, 0x40200000}, // 10 by 4
		{api.W32, 0x3f800000, 0x40400000, 0x3eaaaaab}, // 1 by 3
		{api.W32, 0x40000000, 0x40400000, 0x3f2aaaab}, // 2 by 3
		{api.W32, 0x3f800000, 0x41200000, 0x3dcccccd}, // 1 by 10
		{api.W64, 0x4018000000000000, 0x4008000000000000, 0x4000000000000000},
		{api.W64, 0x4024000000000000, 0x4010000000000000, 0x4004000000000000},
		{api.W64, 0x4000000000000000, 0x4008000000000000, 0x3fe5555555555555},
		{api.W64, 0x3ff0000000000000, 0x4024000000000000, 0x3fb999999999999a},
		{api.W64, 0x4036000000000000, 0x401c000000000000, 0x4009249249249249}, // 22 by 7
		// Just above one and just below it, where floats lie twice as near.
		{api.W32, 0x3f800001, 0x3f800000, 0x3f800001},
		{api.W32, 0x3f800002, 0x3f800001, 0x3f800001},
		{api.W32, 0x3f800000, 0x3f800001, 0x3f7ffffe},
		{api.W32, 0x3f800000, 0x3f7fffff, 0x3f800001},
		{api.W64, 0x3ff0000000000002, 0x3ff0000000000001, 0x3ff0000000000001},
		{api.W64, 0x3ff0000000000000, 0x3ff0000000000001, 0x3feffffffffffffe},
		{api.W64, 0x3ff0000000000000, 0x3fefffffffffffff, 0x3ff0000000000001},
		// Ties, to even. They are below the least one that isn't subnormal alone: elsewhere a middle times what is below has more bits than a float.
		{api.W32, 1, 0x40000000, 0},
		{api.W32, 3, 0x40000000, 2},
		{api.W32, 5, 0x40000000, 2},
		{api.W32, 7, 0x40000000, 4},
		{api.W32, 9, 0x40c00000, 2}, // 9 by 6
		{api.W32, 0x00800001, 0x40000000, 0x00400000},
		{api.W32, 0x00800003, 0x40000000, 0x00400002},
		{api.W32, 0x00ffffff, 0x40000000, 0x00800000},
		{api.W64, 1, 0x4000000000000000, 0},
		{api.W64, 3, 0x4000000000000000, 2},
		{api.W64, 5, 0x4000000000000000, 2},
		{api.W64, 9, 0x4018000000000000, 2},
		{api.W64, 0x0010000000000001, 0x4000000000000000, 0x0008000000000000},
		{api.W64, 0x0010000000000003, 0x4000000000000000, 0x0008000000000002},
		{api.W64, 0x001fffffffffffff, 0x4000000000000000, 0x0010000000000000},
		// Just above such a tie, and just below it.
		{api.W32, 1, 0x3fffffff, 1},
		{api.W32, 1, 0x40000001, 0},
		{api.W32, 3, 0x3fffffff, 2},
		{api.W32, 3, 0x40000001, 1},
		{api.W32, 5, 0x3fffffff, 3},
		{api.W32, 5, 0x40000001, 2},
		{api.W64, 1, 0x3fffffffffffffff, 1},
		{api.W64, 1, 0x4000000000000001, 0},
		{api.W64, 3, 0x4000000000000001, 1},
		{api.W64, 5, 0x3fffffffffffffff, 3},
		// Rounded to nought: what is half of the least one or less.
		{api.W32, 1, 0x7f7fffff, 0},
		{api.W32, 0x00800000, 0x7f7fffff, 0},
		{api.W32, 0x1a000000, 0x64800000, 1}, // 2^-75 by 2^74 is the least one, by 2^75 half of it
		{api.W32, 0x1a000000, 0x65000000, 0},
		{api.W64, 1, 0x7fefffffffffffff, 0},
		{api.W64, 0x0010000000000000, 0x7fefffffffffffff, 0},
		// Below the least one that isn't subnormal, and up to it.
		{api.W32, 0x00800000, 0x40000000, 0x00400000},
		{api.W32, 0x00800000, 0x3f800001, 0x007fffff},
		{api.W32, 0x00800001, 0x3f800001, 0x00800000},
		{api.W32, 0x3f800000, 0x7f000000, 0x00400000},
		{api.W32, 0x3f800000, 0x7f7fffff, 0x00200000},
		{api.W32, 0x007fffff, 0x3f000000, 0x00fffffe},
		{api.W64, 0x0010000000000000, 0x4000000000000000, 0x0008000000000000},
		{api.W64, 0x0010000000000000, 0x3ff0000000000001, 0x000fffffffffffff},
		{api.W64, 0x3ff0000000000000, 0x7fe0000000000000, 0x0008000000000000},
		// Subnormal ones above, below, and both.
		{api.W32, 1, 2, 0x3f000000},
		{api.W32, 1, 3, 0x3eaaaaab},
		{api.W32, 3, 1, 0x40400000},
		{api.W32, 1, 0x007fffff, 0x34000001},
		{api.W32, 0x007fffff, 1, 0x4afffffe},
		{api.W32, 0x00800000, 1, 0x4b000000}, // 2^23
		{api.W64, 1, 2, 0x3fe0000000000000},
		{api.W64, 1, 3, 0x3fd5555555555555},
		{api.W64, 3, 1, 0x4008000000000000},
		{api.W64, 1, 0x000fffffffffffff, 0x3cb0000000000001},
		{api.W64, 0x000fffffffffffff, 1, 0x432ffffffffffffe},
		{api.W64, 0x0010000000000000, 1, 0x4330000000000000}, // 2^52
		// To the infinite one. No quotient lies between the greatest one and 2^(B+1).
		{api.W32, 0x7f7fffff, 0x3f800000, 0x7f7fffff},
		{api.W32, 0x7f7fffff, 0x3f7fffff, 0x7f800000},
		{api.W32, 0x7f7ffffe, 0x3f7fffff, 0x7f7fffff},
		{api.W32, 0x7f000000, 0x3f000000, 0x7f800000},
		{api.W32, 0x7f000000, 0x3f000001, 0x7f7ffffe},
		{api.W32, 0x7f7fffff, 1, 0x7f800000},
		{api.W32, 0x3f800000, 1, 0x7f800000},
		{api.W32, 0x34ffffff, 1, 0x7f7fffff},
		{api.W64, 0x7fefffffffffffff, 0x3ff0000000000000, 0x7fefffffffffffff},
		{api.W64, 0x7fefffffffffffff, 0x3fefffffffffffff, 0x7ff0000000000000},
		{api.W64, 0x7feffffffffffffe, 0x3fefffffffffffff, 0x7fefffffffffffff},
		{api.W64, 0x7fefffffffffffff, 1, 0x7ff0000000000000},
		{api.W64, 0x3ccfffffffffffff, 1, 0x7fefffffffffffff},
	} {
		checkSigns(t, c.w, c.a, c.b, c.want)
	}
}

// TestInfinite: by what is infinite too it is no number, by all else infinite, of the sign that both make; what is finite by it is nought.
func TestInfinite(t *testing.T) {
	for _, w := range widths {
		for _, a := range []uint64{infinite(w), infinite(w) | signBit(w, true)} {
			for _, b := range everywhere(w) {
				over, under := both(w, a, b)|infinite(w), both(w, a, b)
				if isInf(w, b) || isNan(w, b) {
					over, under = canonical(w), canonical(w)
				}
				checkQuotient(t, w, a, b, over)
				checkQuotient(t, w, b, a, under)
			}
		}
	}
}

// TestNought: by nought too it is no number, by all else nought, of the sign that both make; what isn't nought by it is infinite.
func TestNought(t *testing.T) {
	for _, w := range widths {
		for _, a := range []uint64{0, signBit(w, true)} {
			for _, b := range everywhere(w) {
				over, under := both(w, a, b), both(w, a, b)|infinite(w)
				if isNought(w, b) || isNan(w, b) {
					over, under = canonical(w), canonical(w)
				}
				checkQuotient(t, w, a, b, over)
				checkQuotient(t, w, b, a, under)
			}
		}
	}
}

// TestEnds: noughts, infinite ones and 1 by each other, of either sign in either place, each of them written out.
func TestEnds(t *testing.T) {
	for _, w := range widths {
		nought, most, none, minus := uint64(0), infinite(w), canonical(w), signBit(w, true)
		for _, c := range []struct{ a, b, want uint64 }{
			{nought, one(w), nought},
			{nought, most, nought},
			{one(w), nought, most},
			{one(w), most, nought},
			{most, nought, most},
			{most, one(w), most},
		} {
			checkSigns(t, w, c.a, c.b, c.want)
		}
		for _, a := range []uint64{nought, most} {
			checkQuotient(t, w, a, a, none)
			checkQuotient(t, w, a, a|minus, none)
			checkQuotient(t, w, a|minus, a, none)
			checkQuotient(t, w, a|minus, a|minus, none)
		}
	}
}

// TestNoNumber: of whatever bits, in either place, beside whatever else.
func TestNoNumber(t *testing.T) {
	for _, w := range widths {
		for _, a := range noNumbers(w) {
			for _, b := range samples(w) {
				checkQuotient(t, w, a, b, canonical(w))
				checkQuotient(t, w, b, a, canonical(w))
			}
			checkInverse(t, w, a, canonical(w))
		}
	}
}

// TestSamplesAgainstGo: all pairs of the edges, of each sign, what Go's own floats make.
func TestSamplesAgainstGo(t *testing.T) {
	for _, w := range widths {
		all := samples(w)
		for _, a := range all {
			for _, b := range all {
				checkQuotient(t, w, a, b, goQuotient(w, a, b))
			}
		}
	}
}

// TestAgainstGo: exponents whose differences go from one end of the range to the other, what Go's own floats make.
func TestAgainstGo(t *testing.T) {
	for _, w := range widths {
		e, f := layout(w)
		fracs := fractions(w)
		step := uint64(1)<<e/50 + 1
		for exp := uint64(0); exp < 1<<e; exp += step {
			for other := uint64(0); other < 1<<e; other += step {
				for i, frac := range fracs {
					for j, low := range fracs {
						a := exp<<f | frac | signBit(w, i%2 == 1)
						b := other<<f | low | signBit(w, j%3 == 1)
						checkQuotient(t, w, a, b, goQuotient(w, a, b))
					}
				}
			}
		}
	}
}

// TestAgainstBig: quotients that are made without a loss and rounded once, without a pattern.
func TestAgainstBig(t *testing.T) {
	for _, w := range widths {
		_, f := layout(w)
		random := words(30000)
		for i := 0; i+1 < len(random); i += 2 {
			a, b := random[i]>>(64-w), random[i+1]>>(64-w)
			if i%4 == 0 {
				// Without a pattern many quotients lie outside of the range.
				b = b&^infinite(w) | a&infinite(w)
			}
			if i%8 == 0 {
				// Of few bits below, so that some go out even.
				b = b >> (f - 3) << (f - 3)
			}
			if isPlain(w, a) && isPlain(w, b) {
				checkQuotient(t, w, a, b, exactQuotient(w, a, b))
			}
		}
	}
}

// TestEndsAgainstBig: pairs of exponents at each difference where quotients become subnormal, nought or infinite.
func TestEndsAgainstBig(t *testing.T) {
	for _, w := range widths {
		e, f := layout(w)
		bias := 1<<(e-1) - 1
		fracs := fractions(w)[:11]
		for _, from := range []int{-bias - f - 3, bias - 2} {
			for apart := from; apart <= from+f+6; apart++ {
				for _, other := range []int{1, bias - apart/2, 1<<e - 2} {
					exp := other + apart
					if exp < 1 || exp > 1<<e-2 {
						continue
					}
					for _, frac := range fracs {
						for _, low := range fracs {
							a, b := uint64(exp)<<f|frac, uint64(other)<<f|low|signBit(w, true)
							checkQuotient(t, w, a, b, exactQuotient(w, a, b))
						}
					}
				}
			}
		}
	}
}

// TestSubnormal: subnormal ones above, below and in both places, of each number of bits.
func TestSubnormal(t *testing.T) {
	for _, w := range widths {
		low := subnormal(w)
		for _, a := range low {
			for _, b := range low {
				checkQuotient(t, w, a, b, exactQuotient(w, a, b))
			}
			for _, b := range samples(w) {
				if isPlain(w, b) {
					checkQuotient(t, w, a, b, exactQuotient(w, a, b))
					checkQuotient(t, w, b, a, exactQuotient(w, b, a))
				}
			}
		}
	}
}

// TestGoesOutEven: a product that is a float, by one of its factors, is the other one.
func TestGoesOutEven(t *testing.T) {
	for _, w := range widths {
		_, f := layout(w)
		for i, n := range words(5000) {
			size := 1 + i%f
			x := n>>(64-size) | 1
			y := n&(1<<(f+1-size)-1) | 1
			exp, other := i%60-30, i%7-3
			checkSigns(t, w, power(t, w, x*y, exp), power(t, w, y, other), power(t, w, x, exp-other))
		}
	}
}

// TestTies: whole numbers of the least one's halves, all of them below the least one that isn't subnormal: the even one of both neighbours.
func TestTies(t *testing.T) {
	for _, w := range widths {
		e, f := layout(w)
		bias := 1<<(e-1) - 1
		least := 1 - bias - f
		for i, n := range words(4000) {
			halves := n>>(63-f+i%(f-4)) | 1
			by := uint64(1 + i%3*2)
			if bits.Len64(halves*by) > f+1 {
				by = 1
			}
			up := 20 + i%40
			sig := halves >> 1
			checkSigns(t, w, power(t, w, halves*by, least+up), power(t, w, by, up+1), sig+sig&1)
		}
	}
}

// inverseOf: the number that is 1, modulo 2^64, when it is multiplied by n, which is odd.
func inverseOf(n uint64) uint64 {
	x := n
	for range 6 {
		x *= 2 - n*x
	}
	return x
}

// TestNextToMiddles: quotients that are as near to the middle of two floats as they can be, above it and below it.
func TestNextToMiddles(t *testing.T) {
	for _, w := range widths {
		_, f := layout(w)
		tried := 0
		for _, n := range words(20000) {
			b := n>>(63-f) | 1<<f | 1
			for _, off := range []int64{1, -1} {
				// The middle times b, and off, is a times 2^(f+2): no product of whole numbers is nearer to that without being it.
				middle := -uint64(off) * inverseOf(b) & (1<<(f+2) - 1)
				if bits.Len64(middle) != f+2 {
					continue
				}
				hi, lo := bits.Mul64(middle, b)
				lo, carry := bits.Add64(lo, uint64(off), 0)
				hi += uint64(off>>63) + carry
				a := hi<<(62-f) | lo>>(f+2)
				want := middle >> 1
				if off == 1 {
					want++
				}
				checkSigns(t, w, power(t, w, a, 0), power(t, w, b, 0), power(t, w, want, -f-1))
				tried++
			}
		}
		if tried < 10000 {
			t.Errorf("%d: only %d tried", w, tried)
		}
	}
}

func TestInverse(t *testing.T) {
	for _, c := range []struct {
		w       int
		a, want uint64
	}{
		{api.W32, 0x3f800000, 0x3f800000},
		{api.W32, 0x40800000, 0x3e800000}, // of 4 a quarter
		{api.W32, 0x40400000, 0x3eaaaaab},
		{api.W32, 0, 0x7f800000},
		{api.W32, 0x7f800000, 0},
		{api.W32, 1, 0x7f800000},
		{api.W32, 0x001fffff, 0x7f800000},
		{api.W32, 0x00200000, 0x7f800000}, // 2^-128
		{api.W32, 0x00200001, 0x7f7ffff8},
		{api.W32, 0x00400000, 0x7f000000}, // 2^-127
		{api.W32, 0x007fffff, 0x7e800001},
		{api.W32, 0x00800000, 0x7e800000},
		{api.W32, 0x7e800000, 0x00800000},
		{api.W32, 0x7e800001, 0x007fffff},
		{api.W32, 0x7f000000, 0x00400000},
		{api.W32, 0x7f7fffff, 0x00200000},
		{api.W64, 0x3ff0000000000000, 0x3ff0000000000000},
		{api.W64, 0x4010000000000000, 0x3fd0000000000000},
		{api.W64, 0x4008000000000000, 0x3fd5555555555555},
		{api.W64, 0, 0x7ff0000000000000},
		{api.W64, 0x7ff0000000000000, 0},
		{api.W64, 1, 0x7ff0000000000000},
		{api.W64, 0x0004000000000000, 0x7ff0000000000000}, // 2^-1024
		{api.W64, 0x0004000000000001, 0x7feffffffffffff8},
		{api.W64, 0x0008000000000000, 0x7fe0000000000000}, // 2^-1023
		{api.W64, 0x000fffffffffffff, 0x7fd0000000000001},
		{api.W64, 0x0010000000000000, 0x7fd0000000000000},
		{api.W64, 0x7fd0000000000000, 0x0010000000000000},
		{api.W64, 0x7fd0000000000001, 0x000fffffffffffff},
		{api.W64, 0x7fefffffffffffff, 0x0004000000000000},
	} {
		minus := signBit(c.w, true)
		checkInverse(t, c.w, c.a, c.want)
		checkInverse(t, c.w, c.a|minus, c.want|minus)
	}
}

// TestInverseIsAQuotient: of floats of each exponent it is one by that, which is what Go makes of it and what is made without a loss.
func TestInverseIsAQuotient(t *testing.T) {
	for _, w := range widths {
		for i, a := range everywhere(w) {
			want := goQuotient(w, one(w), a)
			checkInverse(t, w, a, want)
			checkQuotient(t, w, one(w), a, want)
			if i%5 == 0 && isPlain(w, a) {
				checkInverse(t, w, a, exactQuotient(w, one(w), a))
			}
		}
	}
}

// TestBitsAbove: of 32 bits the upper half of what is handed in doesn't count, not even for a sign or for no number.
func TestBitsAbove(t *testing.T) {
	above := []uint64{1 << 32, 1 << 63, 0x7ff00000 << 32, 0x7ff80001 << 32, 0xffffffff << 32}
	for _, a := range samples(api.W32) {
		for i, x := range above {
			y := above[(i+1)%len(above)]
			for _, b := range []uint64{0, 1 << 31, 1, 0x3f800000, 0xbf000000, 0x7f7fffff, 0x7f800000, 0xff800000, 0x7fc00000, a} {
				want := goQuotient(api.W32, a, b)
				for _, c := range [][2]uint64{{x | a, b}, {a, x | b}, {x | a, y | b}} {
					checkQuotient(t, api.W32, c[0], c[1], want)
				}
			}
			checkInverse(t, api.W32, x|a, goQuotient(api.W32, 0x3f800000, a))
		}
	}
}

func TestNoWidth(t *testing.T) {
	some := []uint64{0, 1, 2, 1 << 31, 1 << 63, 0x3f800000, 0x7f800000, 0x7f800001, 0xff800000, 0x3ff0000000000000, 0x7ff0000000000000, 0xfff0000000000000, 0x7ff8000000000001, math.MaxUint64}
	for _, w := range notWidths {
		for _, a := range some {
			if got := Inverse(w, a); got != 0 {
				t.Errorf("%d one by %x: %x", w, a, got)
			}
			for _, b := range some {
				if got := Div(w, a, b); got != 0 {
					t.Errorf("%d %x by %x: %x", w, a, b, got)
				}
			}
		}
	}
}

// P6.2

// TestByOne: what is a number is what it was, at each exponent; by one with a sign it has the other sign.
func TestByOne(t *testing.T) {
	for _, w := range widths {
		minus := signBit(w, true)
		for _, a := range everywhere(w) {
			same, other := a, a^minus
			if isNan(w, a) {
				same, other = canonical(w), canonical(w)
			}
			checkQuotient(t, w, a, one(w), same)
			checkQuotient(t, w, a, one(w)|minus, other)
		}
	}
}

// TestByItself: what is finite and not nought is one, at each exponent; all else by itself is no number.
func TestByItself(t *testing.T) {
	for _, w := range widths {
		minus := signBit(w, true)
		for _, a := range everywhere(w) {
			same, other := one(w), one(w)|minus
			if !isPlain(w, a) {
				same, other = canonical(w), canonical(w)
			}
			checkQuotient(t, w, a, a, same)
			checkQuotient(t, w, a, a^minus, other)
		}
	}
}

// TestSignsMultiply: of what is a number the sign hangs on both signs, the amount on neither.
func TestSignsMultiply(t *testing.T) {
	for _, w := range widths {
		minus := signBit(w, true)
		all := samples(w)
		for _, a := range all {
			for _, b := range all {
				got := Div(w, a, b)
				if got == canonical(w) {
					continue
				}
				if got&minus != both(w, a, b) {
					t.Fatalf("%d %x by %x: %x", w, a, b, got)
				}
				if amount := Div(w, a&^minus, b&^minus); got&^minus != amount {
					t.Fatalf("%d %x by %x: %x, without signs %x", w, a, b, got, amount)
				}
			}
		}
	}
}
