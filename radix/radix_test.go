package radix

import (
	"math"
	"math/big"
	"math/bits"
	"slices"
	"testing"

	"trunnion/api"
)

var widths = []int{api.W32, api.W64}

// notWidths: numbers that are no width, those near to one and those far away.
var notWidths = []int{0, 1, -1, 7, 8, 9, 16, 23, 31, 33, 52, 63, 65, 96, 128, -32, -64, 32 + 1<<32, 64 + 1<<32, math.MaxInt, math.MinInt}

// layout: the sizes of a width's fields, written out once more.
func layout(w int) (e, f int) {
	if w == api.W32 {
		return 8, 23
	}
	return 11, 52
}

// minus: the sign of a float of that width.
func minus(w int) uint64 { return 1 << (w - 1) }

// infinite: the infinite one without a sign.
func infinite(w int) uint64 {
	e, f := layout(w)
	return (1<<e - 1) << f
}

// canonical: the canonical NaN.
func canonical(w int) uint64 {
	_, f := layout(w)
	return infinite(w) | 1<<(f-1)
}

// isPlain: whether the float is finite, above nought.
func isPlain(w int, x uint64) bool { return x > 0 && x < infinite(w) }

// words: numbers of 64 bits without a pattern, the same at each run.
func words(n int) []uint64 {
	l := make([]uint64, n)
	x := uint64(0x9e3779b97f4a7c15)
	for i := range l {
		x ^= x << 13
		x ^= x >> 7
		x ^= x << 17
		l[i] = x
	}
	return l
}

// number: the float that Go makes of the bits. Each float of 32 bits is one of 64.
func number(w int, x uint64) float64 {
	if w == api.W32 {
		return float64(math.Float32frombits(uint32(x)))
	}
	return math.Float64frombits(x)
}

// bitsOf: the bits of the float that is nearest to one of 64 bits, of no number those of the canonical one.
func bitsOf(w int, x float64) uint64 {
	switch {
	case x != x:
		return canonical(w)
	case w == api.W32:
		return uint64(math.Float32bits(float32(x)))
	}
	return math.Float64bits(x)
}

// power: the float n · 2^exp of what is one.
func power(t *testing.T, w int, n uint64, exp int) uint64 {
	t.Helper()
	x := math.Ldexp(float64(n), exp)
	r := bitsOf(w, x)
	if number(w, r) != x || bits.Len64(n>>bits.TrailingZeros64(n|1<<63)) > 53 {
		t.Fatalf("%d times 2^%d is no float of %d bits", n, exp, w)
	}
	return r
}

// goRoot: what Go's own floats make of it. Rounded to 53 bits first, a root of 24 bits is still the nearest one.
func goRoot(w int, a uint64) uint64 { return bitsOf(w, math.Sqrt(number(w, a))) }

// middleSquare: the square of the middle of two neighbours, the lower one of which is handed in.
func middleSquare(w int, low uint64) *big.Rat {
	x := new(big.Rat).SetFloat64(number(w, low))
	x.Add(x, new(big.Rat).SetFloat64(number(w, low+1)))
	x.Quo(x, big.NewRat(2, 1))
	return x.Mul(x, x)
}

// checkNearest asks of a number's root whether no other float is nearer: the number lies between the squares of the middles below and above.
// Neither is the number itself: the square of a middle has more bits than a float.
func checkNearest(t *testing.T, w int, a uint64) {
	t.Helper()
	got := Sqrt(w, a)
	if !isPlain(w, got) || !isPlain(w, got+1) {
		t.Fatalf("%d root of %x: %x", w, a, got)
	}
	x := new(big.Rat).SetFloat64(number(w, a))
	if middleSquare(w, got-1).Cmp(x) >= 0 || middleSquare(w, got).Cmp(x) <= 0 {
		t.Fatalf("%d root of %x: %x is not the nearest", w, a, got)
	}
}

// checkRoot holds a root against what is wanted.
func checkRoot(t *testing.T, w int, a, want uint64) {
	t.Helper()
	if got := Sqrt(w, a); got != want {
		t.Fatalf("%d root of %x: %x, not %x", w, a, got, want)
	}
}

// fractions: the edges of a fraction's field, and some numbers between.
func fractions(w int) []uint64 {
	_, f := layout(w)
	all := uint64(1)<<f - 1
	l := []uint64{0, 1, 2, 3, 4, 5, all >> 1, all>>1 + 1, all>>1 + 2, all>>2 + 1, all - 2, all - 1, all}
	for _, n := range words(5) {
		l = append(l, n&all)
	}
	return l
}

// subnormal: floats below the least one that is not subnormal, of each highest bit.
func subnormal(w int) []uint64 {
	_, f := layout(w)
	var l []uint64
	random := words(f)
	for i := range f {
		top := uint64(1) << i
		l = append(l, top, top|top>>1, top|(top-1), top|random[i]&(top-1))
	}
	return l
}

// everywhere: floats without a sign of each exponent's field, and of those below of each highest bit: nought, the infinite one and such as are no number among them.
func everywhere(w int) []uint64 {
	e, f := layout(w)
	l := subnormal(w)
	for exp := range uint64(1) << e {
		for _, frac := range fractions(w) {
			l = append(l, exp<<f|frac)
		}
	}
	return l
}

// P7.1

func TestExamples(t *testing.T) {
	checkRoot(t, api.W64, 0x4000000000000000, 4609047870845172685) // of 2
	checkRoot(t, api.W64, 0x4000000000000000, 0x3ff6a09e667f3bcd)  // of 2, as the document's ninth example says
	checkRoot(t, api.W64, 0x8000000000000000, 0x8000000000000000)  // of -0
	checkRoot(t, api.W64, 0x7ff0000000000000, 0x7ff0000000000000)  // of 1 by 0
}

func TestByHand(t *testing.T) {
	for _, c := range []struct {
		w       int
		a, want uint64
	}{
		// They go out even.
		{api.W32, 0x3f800000, 0x3f800000},
		{api.W32, 0x40800000, 0x40000000}, // of 4
		{api.W32, 0x41100000, 0x40400000}, // of 9
		{api.W32, 0x3e800000, 0x3f000000}, // of a quarter
		{api.W32, 0x40100000, 0x3fc00000}, // of 2.25
		{api.W64, 0x3ff0000000000000, 0x3ff0000000000000},
		{api.W64, 0x4010000000000000, 0x4000000000000000},
		{api.W64, 0x4022000000000000, 0x4008000000000000},
		{api.W64, 0x3fd0000000000000, 0x3fe0000000000000},
		{api.W64, 0x4002000000000000, 0x3ff8000000000000},
		// They don't, of odd and of even powers of two.
		{api.W32, 0x3f000000, 0x3f3504f3}, // of a half
		{api.W32, 0x40000000, 0x3fb504f3}, // of 2
		{api.W32, 0x40400000, 0x3fddb3d7}, // of 3
		{api.W32, 0x40a00000, 0x400f1bbd}, // of 5
		{api.W32, 0x41000000, 0x403504f3}, // of 8
		{api.W32, 0x41200000, 0x404a62c2}, // of 10
		{api.W64, 0x3fe0000000000000, 0x3fe6a09e667f3bcd},
		{api.W64, 0x4008000000000000, 0x3ffbb67ae8584caa},
		{api.W64, 0x4014000000000000, 0x4001e3779b97f4a8},
		{api.W64, 0x4020000000000000, 0x4006a09e667f3bcd},
		{api.W64, 0x4024000000000000, 0x40094c583ada5b53},
		// Just above one, and just below it: the root of 1 and an odd number of steps is just below a middle.
		{api.W32, 0x3f800001, 0x3f800000},
		{api.W32, 0x3f800002, 0x3f800001},
		{api.W32, 0x3f800003, 0x3f800001},
		{api.W32, 0x3f800004, 0x3f800002},
		{api.W32, 0x3f7fffff, 0x3f7fffff},
		{api.W32, 0x3f7ffffe, 0x3f7fffff},
		{api.W32, 0x407fffff, 0x3fffffff},
		{api.W32, 0x407ffffe, 0x3fffffff},
		{api.W64, 0x3ff0000000000001, 0x3ff0000000000000},
		{api.W64, 0x3ff0000000000002, 0x3ff0000000000001},
		{api.W64, 0x3ff0000000000003, 0x3ff0000000000001},
		{api.W64, 0x3ff0000000000004, 0x3ff0000000000002},
		{api.W64, 0x3fefffffffffffff, 0x3fefffffffffffff},
		{api.W64, 0x3feffffffffffffe, 0x3fefffffffffffff},
		{api.W64, 0x400fffffffffffff, 0x3fffffffffffffff},
		{api.W64, 0x400ffffffffffffe, 0x3fffffffffffffff},
		// Subnormal ones, from the least one on.
		{api.W32, 1, 0x1a3504f3},
		{api.W32, 2, 0x1a800000}, // 2^-148
		{api.W32, 4, 0x1ab504f3},
		{api.W32, 8, 0x1b000000},
		{api.W32, 18, 0x1b400000},
		{api.W32, 0x00400000, 0x1fb504f3}, // 2^-127
		{api.W32, 0x007fffff, 0x1fffffff},
		{api.W64, 1, 0x1e60000000000000}, // 2^-1074
		{api.W64, 2, 0x1e66a09e667f3bcd},
		{api.W64, 4, 0x1e70000000000000},
		{api.W64, 9, 0x1e78000000000000},
		{api.W64, 0x0008000000000000, 0x1ff6a09e667f3bcd}, // 2^-1023
		{api.W64, 0x000fffffffffffff, 0x1fffffffffffffff},
		// The least ones that aren't subnormal.
		{api.W32, 0x00800000, 0x20000000},
		{api.W32, 0x00800001, 0x20000000},
		{api.W32, 0x00800002, 0x20000001},
		{api.W64, 0x0010000000000000, 0x2000000000000000},
		{api.W64, 0x0010000000000001, 0x2000000000000000},
		{api.W64, 0x0010000000000002, 0x2000000000000001},
		// The greatest ones.
		{api.W32, 0x7f7fffff, 0x5f7fffff},
		{api.W32, 0x7f7ffffe, 0x5f7fffff},
		{api.W32, 0x7f000000, 0x5f3504f3}, // 2^127
		{api.W32, 0x7e800000, 0x5f000000}, // 2^126
		{api.W64, 0x7fefffffffffffff, 0x5fefffffffffffff},
		{api.W64, 0x7feffffffffffffe, 0x5fefffffffffffff},
		{api.W64, 0x7fe0000000000000, 0x5fe6a09e667f3bcd}, // 2^1023
		{api.W64, 0x7fd0000000000000, 0x5fe0000000000000}, // 2^1022
	} {
		checkRoot(t, c.w, c.a, c.want)
	}
}

// TestEnds: nought is what it was, with its sign; the infinite one without a sign too, with one it is no number.
func TestEnds(t *testing.T) {
	for _, w := range widths {
		checkRoot(t, w, 0, 0)
		checkRoot(t, w, minus(w), minus(w))
		checkRoot(t, w, infinite(w), infinite(w))
		checkRoot(t, w, minus(w)|infinite(w), canonical(w))
	}
}

// TestNegative: whatever is below nought, at each exponent.
func TestNegative(t *testing.T) {
	for _, w := range widths {
		for _, a := range everywhere(w) {
			if a != 0 {
				checkRoot(t, w, minus(w)|a, canonical(w))
			}
		}
	}
}

// TestNoNumber: of whatever bits, of either sign.
func TestNoNumber(t *testing.T) {
	for _, w := range widths {
		_, f := layout(w)
		fracs := append(fractions(w), 1<<(f-1)-1, 1<<(f-1), 1<<(f-1)+1)
		for i := range f {
			fracs = append(fracs, 1<<i)
		}
		for _, frac := range fracs {
			if frac != 0 {
				checkRoot(t, w, infinite(w)|frac, canonical(w))
				checkRoot(t, w, minus(w)|infinite(w)|frac, canonical(w))
			}
		}
	}
}

// TestAgainstGo: floats of each exponent, of either sign, what Go's own floats make.
func TestAgainstGo(t *testing.T) {
	for _, w := range widths {
		for _, a := range everywhere(w) {
			checkRoot(t, w, a, goRoot(w, a))
			checkRoot(t, w, minus(w)|a, goRoot(w, minus(w)|a))
		}
		for _, n := range words(50000) {
			a := n >> (64 - w)
			checkRoot(t, w, a, goRoot(w, a))
		}
	}
}

// TestFractionsAgainstGo: fractions all over their field, of an even power of two and of an odd one.
func TestFractionsAgainstGo(t *testing.T) {
	for _, w := range widths {
		e, f := layout(w)
		bias := uint64(1)<<(e-1) - 1
		step := uint64(1)<<f/40000 + 1
		for _, exp := range []uint64{bias, bias + 1} {
			for frac := uint64(0); frac < 1<<f; frac += step {
				a := exp<<f | frac
				checkRoot(t, w, a, goRoot(w, a))
			}
		}
	}
}

// TestNoFloatIsNearer: floats of each exponent and each highest bit, held against the squares of middles, without a loss.
func TestNoFloatIsNearer(t *testing.T) {
	for _, w := range widths {
		for i, a := range everywhere(w) {
			if isPlain(w, a) && (i%3 == 0 || w == api.W32) {
				checkNearest(t, w, a)
			}
		}
		for _, n := range words(5000) {
			if a := n >> (65 - w); isPlain(w, a) {
				checkNearest(t, w, a)
			}
		}
	}
}

// TestSubnormal: of each number of bits, the nearest one, and what Go's own floats make.
func TestSubnormal(t *testing.T) {
	for _, w := range widths {
		_, f := layout(w)
		low := append(subnormal(w), 3, 5, 6, 7, 9, 10, 1<<f-2, 1<<f, 1<<f+1)
		for _, a := range low {
			checkNearest(t, w, a)
			checkRoot(t, w, a, goRoot(w, a))
		}
	}
}

// TestGoesOutEven: the square of a number of half as many bits as a float has is a float, at whatever power of two.
func TestGoesOutEven(t *testing.T) {
	for _, w := range widths {
		e, f := layout(w)
		half := (f + 1) / 2
		reach := 1<<(e-2) - f
		for i, n := range words(20000) {
			x := n>>(64-half+i%half) | 1
			exp := int(n%uint64(2*reach)) - reach
			checkRoot(t, w, power(t, w, x*x, 2*exp), power(t, w, x, exp))
		}
	}
}

// TestPowers: of each even power of two that is a float it is that of half the exponent; of each odd one that of 2, moved.
func TestPowers(t *testing.T) {
	for _, w := range widths {
		e, f := layout(w)
		bias := 1<<(e-1) - 1
		two := goRoot(w, power(t, w, 2, 0))
		for exp := 1 - bias - f; exp <= bias; exp++ {
			want := power(t, w, 1, exp>>1)
			if exp&1 == 1 {
				want = two + uint64(exp>>1)<<f
			}
			checkRoot(t, w, power(t, w, 1, exp), want)
		}
	}
}

// rootModulo: a number whose square is c, modulo 2^k, c being 1 modulo 8. It is found bit by bit: a wrong bit of the square is mended by the bit below it.
func rootModulo(c uint64, k int) uint64 {
	r := uint64(1)
	for i := 3; i < k; i++ {
		r |= (r*r ^ c) >> i & 1 << (i - 1)
	}
	return r
}

// TestNextToMiddles: roots that are as near to the middle of two floats as they can be, below it and above it.
func TestNextToMiddles(t *testing.T) {
	for _, w := range widths {
		_, f := layout(w)
		var below, above [2]int
		for j := -3000; j <= 3000; j++ {
			// off is what a middle's square has more than the number. The square of an odd one is 1 modulo 8, so no other off is as near to 0.
			off := int64(8*j + 1)
			for i, k := range []int{f + 2, f + 3} {
				r := rootModulo(uint64(off), k)
				for _, m := range []uint64{r, -r, r + 1<<(k-1), -r + 1<<(k-1)} {
					m &= 1<<k - 1
					if bits.Len64(m) != f+2 {
						continue
					}
					hi, lo := bits.Mul64(m, m)
					lo, borrow := bits.Sub64(lo, uint64(off), 0)
					hi -= uint64(off>>63) + borrow
					a := hi<<(64-k) | lo>>k
					if lo&(1<<k-1) != 0 {
						t.Fatalf("%d: the square of %x is not %d, modulo 2^%d", w, m, off, k)
					}
					if bits.Len64(a) != f+1 {
						continue
					}
					want := m >> 1
					if off > 0 {
						below[i]++
					} else {
						above[i]++
						want++
					}
					for _, exp := range []int{0, 1, -20, 17} {
						checkRoot(t, w, power(t, w, a, k+2*exp), power(t, w, want, 1+exp))
					}
				}
			}
		}
		// Of the two powers of two that a number may be moved by, one is even and one odd.
		if least := min(below[0], below[1], above[0], above[1]); least < 1000 {
			t.Errorf("%d: only %d below and %d above tried", w, below, above)
		}
	}
}

// TestBitsAbove: of 32 bits the upper half of what is handed in doesn't count, not even for a sign or for no number.
func TestBitsAbove(t *testing.T) {
	for _, a := range everywhere(api.W32) {
		for _, above := range []uint64{1 << 32, 1 << 63, 0x7ff00000 << 32, 0x7ff80001 << 32, 0xffffffff << 32} {
			checkRoot(t, api.W32, above|a, goRoot(api.W32, a))
			checkRoot(t, api.W32, above|1<<31|a, goRoot(api.W32, 1<<31|a))
		}
	}
}

func TestNoWidth(t *testing.T) {
	some := []uint64{0, 1, 2, 4, 1 << 31, 1 << 63, 0x3f800000, 0x7f800000, 0x7f800001, 0xff800000, 0x3ff0000000000000, 0x7ff0000000000000, 0xfff0000000000000, 0x7ff8000000000001, math.MaxUint64}
	for _, w := range notWidths {
		for _, a := range some {
			checkRoot(t, w, a, 0)
		}
	}
}

// P7.2

// TestSquares: all whole numbers below 4096.
func TestSquares(t *testing.T) {
	for _, w := range widths {
		for n := range uint64(4096) {
			checkRoot(t, w, power(t, w, n*n, 0), power(t, w, n, 0))
		}
	}
}

// TestNeverFalls: from one float to the next one, at each exponent's edges, up to the infinite one.
func TestNeverFalls(t *testing.T) {
	for _, w := range widths {
		for _, a := range everywhere(w) {
			if a >= infinite(w) {
				continue
			}
			low, high := Sqrt(w, a), Sqrt(w, a+1)
			if low > high || high > infinite(w) {
				t.Fatalf("%d roots of %x and the next one: %x, %x", w, a, low, high)
			}
		}
	}
}

// TestNeverFallsInARow: floats in a row, where they are subnormal, where they cease to be, at one, at a power of two that is odd, at the greatest one; a root stays or goes on to the next one, but for those of the least numbers.
func TestNeverFallsInARow(t *testing.T) {
	const row = 3000
	for _, w := range widths {
		_, f := layout(w)
		for _, from := range []uint64{0, 1<<f - row/2, bitsOf(w, 1) - row/2, bitsOf(w, 2) - row/2, bitsOf(w, 3), infinite(w) - row} {
			last := Sqrt(w, from)
			for a := from + 1; a <= from+row; a++ {
				next := Sqrt(w, a)
				if next < last || from != 0 && a != infinite(w) && next > last+1 {
					t.Fatalf("%d roots of %x and the one before: %x, %x", w, a, next, last)
				}
				last = next
			}
		}
	}
}

// TestNeverFallsFarApart: all samples in their order, with the noughts first.
func TestNeverFallsFarApart(t *testing.T) {
	for _, w := range widths {
		all := everywhere(w)
		slices.Sort(all)
		last := 0.0
		for _, a := range append([]uint64{minus(w)}, all...) {
			if a > infinite(w) && a != minus(w) {
				continue
			}
			next := number(w, Sqrt(w, a))
			if !(next >= last) {
				t.Fatalf("%d root of %x: %v, below %v", w, a, next, last)
			}
			last = next
		}
		if !math.IsInf(last, 1) {
			t.Errorf("%d: the last root is %v", w, last)
		}
	}
}
