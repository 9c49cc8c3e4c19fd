package product

import (
	"math"
	"math/big"
	"slices"
	"testing"

	"trunnion/api"
)

var (
	widths = []int{api.W32, api.W64}
	signs  = []bool{false, true}
)

// notWidths: numbers that are no width, those near to one and those far away.
var notWidths = []int{0, 1, -1, 7, 8, 16, 23, 31, 33, 52, 63, 65, 96, 128, -32, -64, 32 + 1<<32, 64 + 1<<32, math.MaxInt, math.MinInt}

// layout: the sizes of a width's fields, written out once more.
func layout(w int) (e, f int) {
	if w == api.W32 {
		return 8, 23
	}
	return 11, 52
}

// signBit: the sign of a float of that width.
func signBit(w int, neg bool) uint64 {
	if neg {
		return 1 << (w - 1)
	}
	return 0
}

// isNeg: whether the float has a sign.
func isNeg(w int, bits uint64) bool { return bits&signBit(w, true) != 0 }

// infinite: the infinite one without a sign.
func infinite(w int) uint64 {
	e, f := layout(w)
	return (1<<e - 1) << f
}

// canonical: the canonical NaN.
func canonical(w int) uint64 {
	_, f := layout(w)
	return infinite(w) | 1<<(f-1)
}

// one: the bits of 1.
func one(w int) uint64 {
	if w == api.W32 {
		return 0x3f800000
	}
	return 0x3ff0000000000000
}

// isNan: whether the float is no number.
func isNan(w int, bits uint64) bool { return bits&^signBit(w, true) > infinite(w) }

// isFinite: whether the float is finite, nought too.
func isFinite(w int, bits uint64) bool { return bits&^signBit(w, true) < infinite(w) }

// isNought: whether the float is nought, of either sign.
func isNought(w int, bits uint64) bool { return bits&^signBit(w, true) == 0 }

// words: numbers of 64 bits without a pattern, the same at each run.
func words(n int) []uint64 {
	l := make([]uint64, n)
	x := uint64(0x9e3779b97f4a7c15)
	for i := range l {
		x ^= x << 13
		x ^= x >> 7
		x ^= x << 17
		l[i] = x
	}
	return l
}

// number: the float that Go makes of the bits. Each float of 32 bits is one of 64.
func number(w int, bits uint64) float64 {
	if w == api.W32 {
		return float64(math.Float32frombits(uint32(bits)))
	}
	return math.Float64frombits(bits)
}

// goProduct: what Go's own floats make of it, of no number the canonical one.
func goProduct(w int, a, b uint64) uint64 {
	var bits uint64
	if w == api.W32 {
		bits = uint64(math.Float32bits(math.Float32frombits(uint32(a)) * math.Float32frombits(uint32(b))))
	} else {
		bits = math.Float64bits(math.Float64frombits(a) * math.Float64frombits(b))
	}
	if isNan(w, bits) {
		return canonical(w)
	}
	return bits
}

// nearest: the float that package big makes of a number, rounded once.
func nearest(w int, x *big.Float) uint64 {
	if w == api.W32 {
		r, _ := x.Float32()
		return uint64(math.Float32bits(r))
	}
	r, _ := x.Float64()
	return math.Float64bits(r)
}

// exactProduct: the product of two finite ones, made without a loss and rounded once.
func exactProduct(w int, a, b uint64) uint64 {
	exact := func(bits uint64) *big.Float { return new(big.Float).SetPrec(128).SetFloat64(number(w, bits)) }
	return nearest(w, exact(a).Mul(exact(a), exact(b)))
}

// exactScale: a finite one times a power of two, rounded once.
func exactScale(w int, a uint64, n int) uint64 {
	x := new(big.Float).SetFloat64(number(w, a))
	return nearest(w, x.SetMantExp(x, n))
}

// fractions: the edges of a fraction's field, those whose products tie often, and some numbers between.
func fractions(w int) []uint64 {
	_, f := layout(w)
	all := uint64(1)<<f - 1
	l := []uint64{0, 1, 2, 3, all >> 1, all>>1 + 1, all>>1 + 2, all>>2 + 1, all - 1, all}
	for _, n := range words(3) {
		l = append(l, n&all)
	}
	return l
}

// samples: floats of both signs, of the exponents' edges and of some between: noughts, infinite ones and such as are no number among them.
func samples(w int) []uint64 {
	e, f := layout(w)
	last := uint64(1)<<e - 1
	var l []uint64
	for _, exp := range []uint64{0, 1, 2, last / 4, last/2 - uint64(f) - 1, last/2 - 1, last / 2, last/2 + 1, last/2 + uint64(f), last / 4 * 3, last - 2, last - 1, last} {
		for _, frac := range fractions(w) {
			for _, neg := range signs {
				l = append(l, signBit(w, neg)|exp<<f|frac)
			}
		}
	}
	return l
}

// everywhere: floats of both signs and of each exponent's field.
func everywhere(w int) []uint64 {
	e, f := layout(w)
	var l []uint64
	for exp := range uint64(1) << e {
		for _, frac := range fractions(w) {
			for _, neg := range signs {
				l = append(l, signBit(w, neg)|exp<<f|frac)
			}
		}
	}
	return l
}

// checkProduct holds the product of two, either way round, against what is wanted.
func checkProduct(t *testing.T, w int, a, b, want uint64) {
	t.Helper()
	if got := Mul(w, a, b); got != want {
		t.Fatalf("%d %x times %x: %x, not %x", w, a, b, got, want)
	}
	if got := Mul(w, b, a); got != want {
		t.Fatalf("%d %x times %x: %x, not %x", w, b, a, got, want)
	}
}

// checkSigns holds the product of two against what is wanted, with each sign that they may have.
func checkSigns(t *testing.T, w int, a, b, want uint64) {
	t.Helper()
	minus := signBit(w, true)
	checkProduct(t, w, a, b, want)
	checkProduct(t, w, a^minus, b, want^minus)
	checkProduct(t, w, a, b^minus, want^minus)
	checkProduct(t, w, a^minus, b^minus, want)
}

// P5.1

func TestExamples(t *testing.T) {
	checkProduct(t, api.W32, 0x40400000, 0x40a00000, 0x41700000) // 3 times 5
	checkProduct(t, api.W32, 1, 0x3f000000, 0)                   // the least one times a half
	if got := All(api.W32); got != 0x3f800000 {
		t.Errorf("of none: %x", got)
	}
}

func TestByHand(t *testing.T) {
	for _, c := range []struct {
		w          int
		a, b, want uint64
	}{
		{api.W32, 0x3f800000, 0x3f800000, 0x3f800000},
		{api.W32, 0x3fc00000, 0x3fc00000, 0x40100000},
		{api.W64, 0x4008000000000000, 0x4014000000000000, 0x402e000000000000},
		{api.W64, 0x3fb999999999999a, 0x3fc999999999999a, 0x3f947ae147ae147c}, // 0.1 times 0.2
		// Ties, to even: of the last bit there are one and a half, which goes up, then four and a half, which goes down.
		{api.W32, 0x3f800001, 0x3fc00000, 0x3fc00002},
		{api.W32, 0x3f800003, 0x3fc00000, 0x3fc00004},
		{api.W64, 0x3ff0000000000001, 0x3ff8000000000000, 0x3ff8000000000002},
		{api.W64, 0x3ff0000000000003, 0x3ff8000000000000, 0x3ff8000000000004},
		// Just above a tie and just below it, by no more than the last bit of the whole product: the odd one is nearer.
		{api.W32, 0x3f800001, 0x3fc00001, 0x3fc00003},
		{api.W32, 0x3f800007, 0x3fe49249, 0x3fe49255},
		{api.W64, 0x3ff0000000000001, 0x3ff8000000000001, 0x3ff8000000000003},
		{api.W64, 0x3ff0000000000005, 0x3ffb333333333333, 0x3ffb33333333333b},
		// Just above a float, and just below a power of two.
		{api.W32, 0x3f800001, 0x3f800001, 0x3f800002},
		{api.W32, 0x3f7fffff, 0x3f7fffff, 0x3f7ffffe},
		{api.W32, 0x3f800001, 0x3ffffffe, 0x40000000},
		{api.W64, 0x3ff0000000000001, 0x3ff0000000000001, 0x3ff0000000000002},
		{api.W64, 0x3ff0000000000001, 0x3ffffffffffffffe, 0x4000000000000000},
		// Rounded to nought: half of the least one, and all that is less; anything above that half isn't.
		{api.W32, 1, 0x3f000000, 0},
		{api.W32, 1, 0x3f000001, 1},
		{api.W32, 1, 0x3effffff, 0},
		{api.W32, 1, 1, 0},
		{api.W32, 0x007fffff, 0x007fffff, 0},
		{api.W32, 0x1a000000, 0x1a000000, 0}, // 2^-75 times itself
		{api.W32, 0x1a000000, 0x1a000001, 1},
		{api.W64, 1, 0x3fe0000000000000, 0},
		{api.W64, 1, 0x3fe0000000000001, 1},
		{api.W64, 1, 0x3fdfffffffffffff, 0},
		{api.W64, 1, 1, 0},
		// Below the least one that isn't subnormal, with ties there too, and up to it.
		{api.W32, 0x00800000, 0x3f000000, 0x00400000},
		{api.W32, 0x00800001, 0x3f000000, 0x00400000},
		{api.W32, 0x00800003, 0x3f000000, 0x00400002},
		{api.W32, 0x00ffffff, 0x3f000000, 0x00800000},
		{api.W32, 0x00800000, 0x3f7fffff, 0x00800000},
		{api.W32, 0x00800000, 0x3f7ffffe, 0x007fffff},
		{api.W32, 3, 0x3f000000, 2},
		{api.W32, 5, 0x3f000000, 2},
		{api.W32, 1, 0x3fc00000, 2},
		{api.W32, 1, 0x3fbfffff, 1},
		{api.W32, 0x007fffff, 0x40000000, 0x00fffffe},
		{api.W32, 1, 0x4b000000, 0x00800000}, // 2^23
		{api.W64, 0x0010000000000000, 0x3fe0000000000000, 0x0008000000000000},
		{api.W64, 0x001fffffffffffff, 0x3fe0000000000000, 0x0010000000000000},
		{api.W64, 3, 0x3fe0000000000000, 2},
		{api.W64, 1, 0x4330000000000000, 0x0010000000000000}, // 2^52
		// To the infinite one: half of the last bit above the greatest one is enough, what is less isn't.
		{api.W32, 0x7f7fffff, 0x3f800000, 0x7f7fffff},
		{api.W32, 0x7f7fffff, 0x3f800001, 0x7f800000},
		{api.W32, 0x7f000000, 0x40000000, 0x7f800000},
		{api.W32, 0x7f000000, 0x3fffffff, 0x7f7fffff},
		{api.W32, 0x5f800000, 0x5f800000, 0x7f800000}, // 2^64 times itself
		{api.W32, 0x5f800000, 0x5f7fffff, 0x7f7fffff},
		{api.W32, 0x7f7fffff, 0x7f7fffff, 0x7f800000},
		{api.W32, 0x7f042108, 0x3ff80000, 0x7f800000}, // that half
		{api.W32, 0x7f09b29a, 0x3fedf87b, 0x7f7fffff}, // just below it
		{api.W64, 0x7fefffffffffffff, 0x3ff0000000000001, 0x7ff0000000000000},
		{api.W64, 0x7fe5555555555555, 0x3ff8000000000000, 0x7ff0000000000000}, // that half
		{api.W64, 0x7fe0000000000000, 0x3fffffffffffffff, 0x7fefffffffffffff},
		{api.W64, 0x7fefffffffffffff, 0x7fefffffffffffff, 0x7ff0000000000000},
		// From one end of the range to the other.
		{api.W32, 1, 0x7f7fffff, 0x34ffffff},
		{api.W64, 1, 0x7fefffffffffffff, 0x3ccfffffffffffff},
	} {
		checkSigns(t, c.w, c.a, c.b, c.want)
	}
}

// TestInfinite: beside nought no number comes of it, beside all else the infinite one of the sign that both make.
func TestInfinite(t *testing.T) {
	for _, w := range widths {
		for _, a := range []uint64{infinite(w), infinite(w) | signBit(w, true)} {
			for _, b := range everywhere(w) {
				want := infinite(w) | signBit(w, isNeg(w, a) != isNeg(w, b))
				if isNought(w, b) || isNan(w, b) {
					want = canonical(w)
				}
				checkProduct(t, w, a, b, want)
			}
		}
	}
}

// TestNought: beside all that is finite nought, of the sign that both make.
func TestNought(t *testing.T) {
	for _, w := range widths {
		for _, a := range []uint64{0, signBit(w, true)} {
			for _, b := range everywhere(w) {
				want := signBit(w, isNeg(w, a) != isNeg(w, b))
				if !isFinite(w, b) {
					want = canonical(w)
				}
				checkProduct(t, w, a, b, want)
			}
		}
	}
}

// TestNoNumber: of whatever bits, in either place, beside whatever else.
func TestNoNumber(t *testing.T) {
	for _, w := range widths {
		all := samples(w)
		for _, a := range all {
			if !isNan(w, a) {
				continue
			}
			for _, b := range all {
				checkProduct(t, w, a, b, canonical(w))
			}
		}
	}
}

// TestSamplesAgainstGo: all pairs of the edges, of each sign.
func TestSamplesAgainstGo(t *testing.T) {
	for _, w := range widths {
		all := samples(w)
		for _, a := range all {
			for _, b := range all {
				checkProduct(t, w, a, b, goProduct(w, a, b))
			}
		}
	}
}

// TestAgainstGo: exponents whose sums go from one end of the range to the other, what Go's own floats make.
func TestAgainstGo(t *testing.T) {
	for _, w := range widths {
		e, f := layout(w)
		fracs := fractions(w)
		step := uint64(1)<<e/50 + 1
		for exp := uint64(0); exp < 1<<e; exp += step {
			for other := uint64(0); other < 1<<e; other += step {
				for i, frac := range fracs {
					for j, low := range fracs {
						a := exp<<f | frac | signBit(w, i%2 == 1)
						b := other<<f | low | signBit(w, j%3 == 1)
						checkProduct(t, w, a, b, goProduct(w, a, b))
					}
				}
			}
		}
	}
}

// TestEndsAgainstBig: pairs of exponents at each sum where products become subnormal, nought or infinite.
func TestEndsAgainstBig(t *testing.T) {
	for _, w := range widths {
		e, f := layout(w)
		bias := 1<<(e-1) - 1
		fracs := fractions(w)
		for _, from := range []int{bias - f - 4, 3*bias - 3} {
			for together := from; together <= from+f+7; together++ {
				for _, exp := range []int{1, together / 3, together / 2} {
					other := together - exp
					if other >= 1<<e-1 {
						continue
					}
					for _, frac := range fracs {
						for _, low := range fracs {
							a, b := uint64(exp)<<f|frac, uint64(other)<<f|low|signBit(w, true)
							checkProduct(t, w, a, b, exactProduct(w, a, b))
						}
					}
				}
			}
		}
	}
}

// TestAgainstBig: products that are made without a loss and rounded once, without a pattern.
func TestAgainstBig(t *testing.T) {
	for _, w := range widths {
		e, f := layout(w)
		random := words(40000)
		for i := 0; i+1 < len(random); i += 2 {
			a, b := random[i]>>(64-w), random[i+1]>>(64-w)
			if i%4 == 0 {
				// Without a pattern most products lie outside of the range.
				b = b&^infinite(w) | (1<<e/2+b%7-3)<<f
			}
			if i%8 == 0 {
				// Of few bits each, so that ties come often.
				a = a >> (f / 2) << (f / 2)
				b = b >> (f/2 - 1) << (f/2 - 1)
			}
			if isFinite(w, a) && isFinite(w, b) {
				checkProduct(t, w, a, b, exactProduct(w, a, b))
			}
		}
	}
}

// TestBitsAbove: of 32 bits the upper half of what is handed in doesn't count, not even for a sign or for no number.
func TestBitsAbove(t *testing.T) {
	above := []uint64{1 << 32, 1 << 63, 0x7ff00000 << 32, 0x7ff80001 << 32, 0xffffffff << 32}
	for _, a := range samples(api.W32) {
		for i, x := range above {
			y := above[(i+1)%len(above)]
			for _, b := range []uint64{0, 1 << 31, 1, 0x3f800000, 0xbf000000, 0x7f7fffff, 0x7f800000, 0xff800000, 0x7fc00000, a} {
				want := Mul(api.W32, a, b)
				for _, c := range [][2]uint64{{x | a, b}, {a, x | b}, {x | a, y | b}} {
					if got := Mul(api.W32, c[0], c[1]); got != want {
						t.Fatalf("%x times %x: %x, not %x", c[0], c[1], got, want)
					}
				}
				if got := All(api.W32, x|a, y|b); got != want {
					t.Fatalf("%x and %x, all: %x, not %x", x|a, y|b, got, want)
				}
			}
			for _, n := range []int{0, 1, -1, 30, -30, 300, -300} {
				if got, want := Scale(api.W32, x|a, n), Scale(api.W32, a, n); got != want {
					t.Fatalf("%x by %d: %x, not %x", x|a, n, got, want)
				}
			}
		}
	}
}

func TestNoWidth(t *testing.T) {
	some := []uint64{0, 1, 2, 1 << 31, 1 << 63, 0x3f800000, 0x7f800000, 0x7f800001, 0xff800000, 0x3ff0000000000000, 0x7ff0000000000000, 0xfff0000000000000, 0x7ff8000000000001, math.MaxUint64}
	for _, w := range notWidths {
		if got := All(w); got != 0 {
			t.Errorf("%d: %x", w, got)
		}
		if got := All(w, some...); got != 0 {
			t.Errorf("%d: %x", w, got)
		}
		for _, a := range some {
			if got := All(w, a); got != 0 {
				t.Errorf("%d %x: %x", w, a, got)
			}
			for _, n := range []int{math.MinInt, -1, 0, 1, math.MaxInt} {
				if got := Scale(w, a, n); got != 0 {
					t.Errorf("%d %x by %d: %x", w, a, n, got)
				}
			}
			for _, b := range some {
				if got := Mul(w, a, b); got != 0 {
					t.Errorf("%d %x %x: %x", w, a, b, got)
				}
			}
		}
	}
}

// P5.2

func TestScaleByHand(t *testing.T) {
	for _, c := range []struct {
		w    int
		a    uint64
		n    int
		want uint64
	}{
		{api.W32, 0x40400000, 0, 0x40400000},
		{api.W32, 0x40400000, 1, 0x40c00000},
		{api.W32, 0xc0400000, -1, 0xbfc00000},
		{api.W32, 0x3f800000, -149, 1},
		{api.W32, 0x3f800000, -150, 0},
		{api.W32, 0x3f800001, -150, 1},
		{api.W32, 0xbf800000, -150, 1 << 31},
		{api.W32, 0x3f800000, 127, 0x7f000000},
		{api.W32, 0x3f800000, 128, 0x7f800000},
		{api.W32, 0xbf800000, 128, 0xff800000},
		{api.W32, 1, 149, 0x3f800000},
		{api.W32, 1, 276, 0x7f000000},
		{api.W32, 1, 277, 0x7f800000},
		{api.W32, 0x7f7fffff, -277, 1},
		{api.W32, 0x7f7fffff, -278, 0},
		{api.W64, 0x3ff0000000000000, -1074, 1},
		{api.W64, 0x3ff0000000000000, -1075, 0},
		{api.W64, 0x3ff8000000000000, -1075, 1},
		{api.W64, 0xbff0000000000001, -1075, 1<<63 | 1},
		{api.W64, 1, 1074, 0x3ff0000000000000},
		{api.W64, 1, 2097, 0x7fe0000000000000},
		{api.W64, 1, 2098, 0x7ff0000000000000},
		{api.W64, 1<<63 | 1, 2098, 0xfff0000000000000},
		{api.W64, 0x7fefffffffffffff, -2098, 1},
		{api.W64, 0x7fefffffffffffff, -2099, 0},
		{api.W64, 0xffefffffffffffff, -2099, 1 << 63},
		// Rounded once: 5 and 11 eighths of the last bit are 1. By way of halves of it they would be 2 and 6 quarters, which are ties, and come to 0 and 2.
		{api.W32, 0x3f800005, -129, 0x00100001},
		{api.W32, 0x3f80000b, -129, 0x00100001},
		{api.W32, 0xbf800005, -129, 0x80100001},
		{api.W64, 0x3ff0000000000005, -1025, 0x0002000000000001},
		{api.W64, 0x3ff000000000000b, -1025, 0x0002000000000001},
		{api.W64, 0xbff0000000000005, -1025, 0x8002000000000001},
	} {
		if got := Scale(c.w, c.a, c.n); got != c.want {
			t.Errorf("%d %x by %d: %x, not %x", c.w, c.a, c.n, got, c.want)
		}
	}
}

// TestScaleOnce: some of what is rounded once would be another float if it were rounded on the way.
func TestScaleOnce(t *testing.T) {
	for _, w := range widths {
		e, _ := layout(w)
		least := 2 - 1<<(e-1) // one times that power is the least float that isn't subnormal
		differ := 0
		for low := range uint64(64) {
			for n := -1; n >= -6; n-- {
				a := one(w) | low
				got, want := Scale(w, a, least+n), exactScale(w, a, least+n)
				if got != want {
					t.Errorf("%d %x by %d: %x, not %x", w, a, least+n, got, want)
				}
				if Scale(w, Scale(w, a, least-1), n+1) != want {
					differ++
				}
			}
		}
		if differ == 0 {
			t.Errorf("%d: two steps come to the same everywhere", w)
		}
	}
}

// TestScaleAgainstBig: of floats of all exponents by all powers that leave any of them within the range, and some beyond.
func TestScaleAgainstBig(t *testing.T) {
	for _, w := range widths {
		e, f := layout(w)
		edge := 1<<e + f + 10
		step := 1<<e/200 + 1
		for i, a := range samples(w) {
			if !isFinite(w, a) || isNought(w, a) {
				continue
			}
			for n := -edge + i%step; n <= edge; n += step {
				if got, want := Scale(w, a, n), exactScale(w, a, n); got != want {
					t.Fatalf("%d %x by %d: %x, not %x", w, a, n, got, want)
				}
			}
		}
	}
}

// TestScaleFar: at the ends of an int's range, and wherever a sum with an exponent could leave it.
func TestScaleFar(t *testing.T) {
	for _, w := range widths {
		for _, a := range everywhere(w) {
			if !isFinite(w, a) || isNought(w, a) {
				continue
			}
			nought := a & signBit(w, true)
			for _, n := range []int{2200, 4095, 4096, 4097, 1 << 16, 1 << 31, 1 << 32, 1<<32 + 1, 1 << 40, math.MaxInt - 1000, math.MaxInt - 1, math.MaxInt} {
				if got := Scale(w, a, n); got != nought|infinite(w) {
					t.Fatalf("%d %x by %d: %x", w, a, n, got)
				}
				for _, down := range []int{-n, -n - 1} {
					if got := Scale(w, a, down); got != nought {
						t.Fatalf("%d %x by %d: %x", w, a, down, got)
					}
				}
			}
		}
	}
}

// TestScaleOfOthers: noughts and infinite ones are what they were, no number is the canonical one, by whatever power.
func TestScaleOfOthers(t *testing.T) {
	for _, w := range widths {
		for _, n := range []int{math.MinInt, math.MinInt + 1, -1 << 32, -4096, -1074, -149, -1, 0, 1, 149, 1074, 4096, 1 << 32, math.MaxInt - 1, math.MaxInt} {
			for _, neg := range signs {
				for _, a := range []uint64{signBit(w, neg), infinite(w) | signBit(w, neg)} {
					if got := Scale(w, a, n); got != a {
						t.Errorf("%d %x by %d: %x", w, a, n, got)
					}
				}
				for _, low := range []uint64{1, 2, canonical(w) - infinite(w), canonical(w) - infinite(w) + 1, infinite(w)&-infinite(w) - 1} {
					if got := Scale(w, infinite(w)|low|signBit(w, neg), n); got != canonical(w) {
						t.Errorf("%d %x by %d: %x", w, infinite(w)|low|signBit(w, neg), n, got)
					}
				}
			}
		}
	}
}

// TestScaleIsAProduct: by a power that is a float it is the product with that.
func TestScaleIsAProduct(t *testing.T) {
	for _, w := range widths {
		e, f := layout(w)
		bias := 1<<(e-1) - 1
		for _, a := range samples(w) {
			for exp := 1; exp < 1<<e-1; exp += 1<<e/100 + 1 {
				if got, want := Scale(w, a, exp-bias), Mul(w, a, uint64(exp)<<f); got != want {
					t.Fatalf("%d %x by %d: %x, not %x", w, a, exp-bias, got, want)
				}
			}
		}
	}
}

func TestAll(t *testing.T) {
	const minus32, minus64 = 1 << 31, 1 << 63
	for _, c := range []struct {
		name string
		w    int
		list []uint64
		want uint64
	}{
		{"none, 32", api.W32, nil, 0x3f800000},
		{"none, 64", api.W64, []uint64{}, 0x3ff0000000000000},
		{"one", api.W32, []uint64{0xc0400000}, 0xc0400000},
		{"the least one", api.W64, []uint64{minus64 | 1}, minus64 | 1},
		{"2, 3 and 4", api.W32, []uint64{0x40000000, 0x40400000, 0x40800000}, 0x41c00000},
		{"negative nought", api.W32, []uint64{minus32}, minus32},
		{"two negative noughts", api.W32, []uint64{minus32, minus32}, 0},
		{"three negative noughts", api.W64, []uint64{minus64, minus64, minus64}, minus64},
		{"-1, -1, -1", api.W64, []uint64{0xbff0000000000000, 0xbff0000000000000, 0xbff0000000000000}, 0xbff0000000000000},
		{"no number", api.W32, []uint64{0xff800001}, 0x7fc00000},
		{"no number among others", api.W64, []uint64{0x3ff0000000000000, 0xfff0000000000001, 0}, 0x7ff8000000000000},
		{"an infinite one", api.W64, []uint64{0x3ff0000000000000, 0xfff0000000000000, 1}, 0xfff0000000000000},
		{"an infinite one and nought", api.W32, []uint64{0x7f800000, 0x3f800000, 0, 0x3f800000}, 0x7fc00000},
		// Each product is rounded, from the first one on: what has become infinite or nought stays so.
		{"the greatest one, 2, a half", api.W32, []uint64{0x7f7fffff, 0x40000000, 0x3f000000}, 0x7f800000},
		{"the greatest one, a half, 2", api.W32, []uint64{0x7f7fffff, 0x3f000000, 0x40000000}, 0x7f7fffff},
		{"the least one, a half, 2", api.W64, []uint64{1, 0x3fe0000000000000, 0x4000000000000000}, 0},
		{"the least one, 2, a half", api.W64, []uint64{1, 0x4000000000000000, 0x3fe0000000000000}, 1},
		{"2^64 twice, and nought", api.W32, []uint64{0x5f800000, 0x5f800000, 0}, 0x7fc00000},
	} {
		if got := All(c.w, c.list...); got != c.want {
			t.Errorf("%s: %x, not %x", c.name, got, c.want)
		}
	}
}

// TestAllStepByStep: at each length it is what Go's floats come to, multiplied one by one.
func TestAllStepByStep(t *testing.T) {
	for _, w := range widths {
		e, f := layout(w)
		var list []uint64
		want := one(w)
		for i, n := range words(1000) {
			// Exponents of 1 and of what is just below it, whichever brings the product back to 1.
			exp := uint64(1)<<(e-1) - 1
			if want > one(w) {
				exp--
			}
			bits := n>>(64-w)&(1<<f-1) | exp<<f
			list = append(list, bits)
			want = goProduct(w, want, bits)
			if i%17 == 0 || i < 10 {
				if got := All(w, list...); got != want {
					t.Fatalf("%d of %d: %x, not %x", w, len(list), got, want)
				}
			}
		}
	}
}

// TestAllLeavesTheList: what is handed in is not changed, what lies behind it neither.
func TestAllLeavesTheList(t *testing.T) {
	all := []uint64{1<<63 | 0x3f800000, 0x40000000, 0x7fc00001, 0xffffffffffffffff, 5}
	kept := slices.Clone(all)
	All(api.W32, all[:3]...)
	All(api.W64, all[:0]...)
	if !slices.Equal(all, kept) {
		t.Errorf("%x, not %x", all, kept)
	}
}

// P5.3

func TestOrderOfTwo(t *testing.T) {
	for _, w := range widths {
		all := samples(w)
		for _, a := range all {
			for _, b := range all {
				if one, other := Mul(w, a, b), Mul(w, b, a); one != other {
					t.Fatalf("%d %x, %x: %x and %x", w, a, b, one, other)
				}
			}
		}
	}
}

// TestTimesOne: what is a number is what it was, at each exponent; times one with a sign it has the other sign.
func TestTimesOne(t *testing.T) {
	for _, w := range widths {
		minus := signBit(w, true)
		for _, a := range everywhere(w) {
			same, other := a, a^minus
			if isNan(w, a) {
				same, other = canonical(w), canonical(w)
			}
			checkProduct(t, w, a, one(w), same)
			checkProduct(t, w, a, one(w)|minus, other)
			if got := Scale(w, a, 0); got != same {
				t.Fatalf("%d %x by 0: %x", w, a, got)
			}
			if got := All(w, a); got != same {
				t.Fatalf("%d %x alone: %x", w, a, got)
			}
		}
	}
}

// TestSignsMultiply: of what is a number the sign hangs on both signs, the amount on neither.
func TestSignsMultiply(t *testing.T) {
	for _, w := range widths {
		minus := signBit(w, true)
		all := samples(w)
		for _, a := range all {
			for _, b := range all {
				got := Mul(w, a, b)
				if got == canonical(w) {
					continue
				}
				if isNeg(w, got) != (isNeg(w, a) != isNeg(w, b)) {
					t.Fatalf("%d %x times %x: %x", w, a, b, got)
				}
				if amount := Mul(w, a&^minus, b&^minus); got&^minus != amount {
					t.Fatalf("%d %x times %x: %x, without signs %x", w, a, b, got, amount)
				}
			}
		}
	}
}
