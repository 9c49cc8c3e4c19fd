package cast

import (
	"math"
	"math/big"
	"strconv"
	"strings"
	"testing"

	"trunnion/api"
)

var widths = []int{api.W32, api.W64}

// notWidths: numbers that are no width, those near to one and those far away.
var notWidths = []int{0, 1, -1, 7, 8, 9, 16, 23, 31, 33, 52, 63, 65, 96, 128, -32, -64, 32 + 1<<32, 64 + 1<<32, math.MaxInt, math.MinInt}

// layout: the sizes of a width's fields, written out once more.
func layout(w int) (e, f int) {
	if w == api.W32 {
		return 8, 23
	}
	return 11, 52
}

// minus: the sign of a float of that width, and of a whole number.
func minus(w int) uint64 { return 1 << (w - 1) }

// all: the greatest whole number of that width, without a sign.
func all(w int) uint64 { return math.MaxUint64 >> (64 - w) }

// infinite: the infinite one without a sign.
func infinite(w int) uint64 {
	e, f := layout(w)
	return (1<<e - 1) << f
}

// canonical: the canonical NaN.
func canonical(w int) uint64 {
	_, f := layout(w)
	return infinite(w) | 1<<(f-1)
}

// isNumber: whether these bits of a float are not those of no number.
func isNumber(w int, x uint64) bool { return x&^minus(w) <= infinite(w) }

// words: numbers of 64 bits without a pattern, the same at each run.
func words(n int) []uint64 {
	l := make([]uint64, n)
	x := uint64(0x9e3779b97f4a7c15)
	for i := range l {
		x ^= x << 13
		x ^= x >> 7
		x ^= x << 17
		l[i] = x
	}
	return l
}

// float: the float that Go makes of the bits. Each float of 32 bits is one of 64.
func float(w int, x uint64) float64 {
	if w == api.W32 {
		return float64(math.Float32frombits(uint32(x)))
	}
	return math.Float64frombits(x)
}

// both: the floats, and beside each of them the one of the other sign.
func both(w int, l []uint64) []uint64 {
	var b []uint64
	for _, x := range l {
		b = append(b, x, x^minus(w))
	}
	return b
}

// fractions: the edges of a fraction's field, each of its bits alone, each row of ones that begins or ends with it, and some numbers between.
func fractions(w int) []uint64 {
	_, f := layout(w)
	full := uint64(1)<<f - 1
	l := []uint64{0, 3, 5, full - 1, full - 2}
	for i := range f {
		bit := uint64(1) << i
		l = append(l, bit, bit|1, bit-1, full&^(bit-1), full&^bit)
	}
	for _, n := range words(8) {
		l = append(l, n&full)
	}
	return l
}

// everywhere: floats of each exponent's field and either sign, what is no number among them.
func everywhere(w int) []uint64 {
	e, f := layout(w)
	var l []uint64
	for exp := range uint64(1) << e {
		for _, frac := range fractions(w) {
			l = append(l, exp<<f|frac)
		}
	}
	return both(w, l)
}

// noNumbers: what is no number, of either sign: the canonical one, and others of many fractions.
func noNumbers(w int) []uint64 {
	l := []uint64{canonical(w), canonical(w) + 1, canonical(w) - 1}
	for _, frac := range fractions(w) {
		if frac != 0 {
			l = append(l, infinite(w)|frac)
		}
	}
	return both(w, l)
}

// wholes: whole numbers of that width: all of few bits, both ends with and without a sign, each power of two, each row of ones, both of them with all bits alike below one, what lies beside them, and numbers without a pattern, of all lengths.
func wholes(from int) []uint64 {
	var l []uint64
	add := func(n uint64) {
		for _, d := range []uint64{0, 1, 2, 3} {
			l = append(l, (n+d)&all(from), (n-d)&all(from), (d-n)&all(from))
		}
	}
	for n := range uint64(300) {
		add(n)
	}
	add(minus(from))
	for i := range from {
		for j := range i + 1 {
			add(1<<i | 1<<j)
			add(1<<i - 1<<j)
		}
	}
	for i, n := range words(3000) {
		add(n >> (i % 64))
	}
	return l
}

// inWords: the number that the lowest from bits of n are, by whole numbers without an end.
func inWords(from int, n uint64, sign bool) *big.Int {
	x := new(big.Int).SetUint64(n)
	x.And(x, new(big.Int).SetUint64(all(from)))
	if sign && x.Bit(from-1) == 1 {
		x.Sub(x, new(big.Int).Lsh(big.NewInt(1), uint(from)))
	}
	return x
}

// rounded: the bits of the float that is nearest to a whole number, and whether it is that number. A float of as many bits as the width's has is rounded by math/big; whole numbers aren't near to the ends of the exponents.
func rounded(w int, n *big.Int) (bits uint64, exact bool) {
	_, f := layout(w)
	x := new(big.Float).SetPrec(uint(f + 1)).SetMode(big.ToNearestEven).SetInt(n)
	d, _ := x.Float64()
	if w == api.W32 {
		bits = uint64(math.Float32bits(float32(d)))
	} else {
		bits = math.Float64bits(d)
	}
	back, _ := x.Int(nil)
	return bits, back.Cmp(n) == 0
}

// byGo: what Go's own conversions make of the lowest from bits of n.
func byGo(w, from int, n uint64, sign bool) uint64 {
	var narrow float32
	var broad float64
	switch {
	case from == api.W32 && sign:
		narrow, broad = float32(int32(n)), float64(int32(n))
	case from == api.W32:
		narrow, broad = float32(uint32(n)), float64(uint32(n))
	case sign:
		narrow, broad = float32(int64(n)), float64(int64(n))
	default:
		narrow, broad = float32(n), float64(n)
	}
	if w == api.W32 {
		return uint64(math.Float32bits(narrow))
	}
	return math.Float64bits(broad)
}

// made: what is made of a whole number.
func made(w, from int, n uint64, sign bool) uint64 {
	if sign {
		return FromInt(w, from, n)
	}
	return FromUint(w, from, n)
}

// check holds what is made of a whole number against what is wanted.
func check(t *testing.T, w, from int, n uint64, sign bool, want uint64, exact bool) {
	t.Helper()
	if got := made(w, from, n, sign); got != want {
		t.Fatalf("%d of %d, %x, signed %t: %x, not %x", w, from, n, sign, got, want)
	}
	if got := Exact(w, from, n, sign); got != exact {
		t.Fatalf("%d of %d, %x, signed %t: exact %t", w, from, n, sign, got)
	}
}

// checkExactly holds it against whole numbers without an end.
func checkExactly(t *testing.T, w, from int, n uint64, sign bool) {
	t.Helper()
	want, exact := rounded(w, inWords(from, n, sign))
	check(t, w, from, n, sign, want, exact)
}

// The chapter's examples

func TestExamples(t *testing.T) {
	if got := FromInt(api.W32, api.W32, 4294967295); got != 3212836864 {
		t.Errorf("minus one: %d", got)
	}
	if got := Demote(0x7fefffffffffffff); got != 0x7f800000 {
		t.Errorf("the greatest one: %x", got)
	}
}

// P11.1 and P11.3, by hand

func TestFromUintByHand(t *testing.T) {
	for _, c := range []struct {
		w, from int
		n, want uint64
		exact   bool
	}{
		{api.W32, api.W32, 0, 0, true},
		{api.W32, api.W32, 1, 0x3f800000, true},
		{api.W32, api.W32, 2, 0x40000000, true},
		{api.W32, api.W32, 3, 0x40400000, true},
		{api.W32, api.W32, 123, 0x42f60000, true},
		{api.W32, api.W32, 0x7fffff, 0x4afffffe, true},    // 23 bits
		{api.W32, api.W32, 0xffffff, 0x4b7fffff, true},    // as many as a float has
		{api.W32, api.W32, 0x1000000, 0x4b800000, true},   // one more: a power of two
		{api.W32, api.W32, 0x1000001, 0x4b800000, false},  // between two, the even one below
		{api.W32, api.W32, 0x1000002, 0x4b800001, true},   // the next one
		{api.W32, api.W32, 0x1000003, 0x4b800002, false},  // between two, the even one above
		{api.W32, api.W32, 0x1ffffff, 0x4c000000, false},  // between two, with a bit more
		{api.W32, api.W32, 0x2000001, 0x4c000000, false},  // of 26 bits: below the middle
		{api.W32, api.W32, 0x2000002, 0x4c000000, false},  // the middle
		{api.W32, api.W32, 0x2000003, 0x4c000001, false},  // above it
		{api.W32, api.W32, 0x2000005, 0x4c000001, false},  // below the next one
		{api.W32, api.W32, 0x2000006, 0x4c000002, false},  // the next one, whose even one is above
		{api.W32, api.W32, 0x7fffffff, 0x4f000000, false}, // the greatest one with a sign
		{api.W32, api.W32, 0x80000000, 0x4f000000, true},  // 2^31
		{api.W32, api.W32, 0x80000080, 0x4f000000, false}, // the middle
		{api.W32, api.W32, 0x80000081, 0x4f000001, false}, // above it
		{api.W32, api.W32, 0x8000007f, 0x4f000000, false}, // below it
		{api.W32, api.W32, 0xffffff00, 0x4f7fffff, true},  // the greatest one that is a float
		{api.W32, api.W32, 0xffffff7f, 0x4f7fffff, false}, // below the middle
		{api.W32, api.W32, 0xffffff80, 0x4f800000, false}, // the middle
		{api.W32, api.W32, 0xffffffff, 0x4f800000, false}, // the greatest one: 2^32
		{api.W32, api.W64, 0, 0, true},                    // of 64 bits
		{api.W32, api.W64, 1, 0x3f800000, true},
		{api.W32, api.W64, 0xffffffff, 0x4f800000, false},
		{api.W32, api.W64, 0x100000000, 0x4f800000, true}, // 2^32
		{api.W32, api.W64, 1 << 60, 0x5d800000, true},
		{api.W32, api.W64, 1<<63 - 1, 0x5f000000, false},
		{api.W32, api.W64, 1 << 63, 0x5f000000, true},
		{api.W32, api.W64, 1<<63 | 1<<39, 0x5f000000, false},     // the middle
		{api.W32, api.W64, 1<<63 | 1<<39 | 1, 0x5f000001, false}, // above it
		{api.W32, api.W64, 1<<63 | 1<<39 - 1, 0x5f000000, false}, // below it
		{api.W32, api.W64, 1<<63 | 3<<39, 0x5f000002, false},     // the next one, whose even one is above
		{api.W32, api.W64, 0xffffff0000000000, 0x5f7fffff, true},
		{api.W32, api.W64, 0xffffff7fffffffff, 0x5f7fffff, false},
		{api.W32, api.W64, 0xffffff8000000000, 0x5f800000, false},
		{api.W32, api.W64, math.MaxUint64, 0x5f800000, false}, // 2^64
		{api.W64, api.W32, 0, 0, true},                        // as 64 bits, of 32: each one is a float
		{api.W64, api.W32, 1, 0x3ff0000000000000, true},
		{api.W64, api.W32, 0x1000001, 0x4170000010000000, true},
		{api.W64, api.W32, 0x7fffffff, 0x41dfffffffc00000, true},
		{api.W64, api.W32, 0x80000000, 0x41e0000000000000, true},
		{api.W64, api.W32, 0xffffffff, 0x41efffffffe00000, true},
		{api.W64, api.W64, 0, 0, true},
		{api.W64, api.W64, 1, 0x3ff0000000000000, true},
		{api.W64, api.W64, 1<<53 - 1, 0x433fffffffffffff, true}, // as many as a float has
		{api.W64, api.W64, 1 << 53, 0x4340000000000000, true},   // one more
		{api.W64, api.W64, 1<<53 + 1, 0x4340000000000000, false},
		{api.W64, api.W64, 1<<53 + 2, 0x4340000000000001, true},
		{api.W64, api.W64, 1<<53 + 3, 0x4340000000000002, false},
		{api.W64, api.W64, 1<<54 - 1, 0x4350000000000000, false},
		{api.W64, api.W64, 1<<54 + 1, 0x4350000000000000, false},
		{api.W64, api.W64, 1<<54 + 2, 0x4350000000000000, false},
		{api.W64, api.W64, 1<<54 + 3, 0x4350000000000001, false},
		{api.W64, api.W64, 1<<63 - 1, 0x43e0000000000000, false},
		{api.W64, api.W64, 1 << 63, 0x43e0000000000000, true},
		{api.W64, api.W64, 1<<63 | 1<<10, 0x43e0000000000000, false},
		{api.W64, api.W64, 1<<63 | 1<<10 | 1, 0x43e0000000000001, false},
		{api.W64, api.W64, 1<<63 | 3<<10, 0x43e0000000000002, false},
		{api.W64, api.W64, 0xfffffffffffff800, 0x43efffffffffffff, true},
		{api.W64, api.W64, 0xfffffffffffffbff, 0x43efffffffffffff, false},
		{api.W64, api.W64, 0xfffffffffffffc00, 0x43f0000000000000, false},
		{api.W64, api.W64, math.MaxUint64, 0x43f0000000000000, false},
	} {
		check(t, c.w, c.from, c.n, false, c.want, c.exact)
	}
}

func TestFromIntByHand(t *testing.T) {
	for _, c := range []struct {
		w, from int
		n       int64
		want    uint64
		exact   bool
	}{
		{api.W32, api.W32, 0, 0, true},
		{api.W32, api.W32, 1, 0x3f800000, true},
		{api.W32, api.W32, -1, 0xbf800000, true},
		{api.W32, api.W32, -2, 0xc0000000, true},
		{api.W32, api.W32, -123, 0xc2f60000, true},
		{api.W32, api.W32, -0xffffff, 0xcb7fffff, true},
		{api.W32, api.W32, -0x1000000, 0xcb800000, true},
		{api.W32, api.W32, -0x1000001, 0xcb800000, false},
		{api.W32, api.W32, -0x1000002, 0xcb800001, true},
		{api.W32, api.W32, -0x1000003, 0xcb800002, false},
		{api.W32, api.W32, 0x1000001, 0x4b800000, false},
		{api.W32, api.W32, 0x1000003, 0x4b800002, false},
		{api.W32, api.W32, math.MaxInt32, 0x4f000000, false},
		{api.W32, api.W32, 0x7fffff80, 0x4effffff, true},
		{api.W32, api.W32, 0x7fffffbf, 0x4effffff, false},
		{api.W32, api.W32, 0x7fffffc0, 0x4f000000, false},
		{api.W32, api.W32, math.MinInt32, 0xcf000000, true},
		{api.W32, api.W32, math.MinInt32 + 1, 0xcf000000, false},
		{api.W32, api.W32, -0x7fffffbf, 0xceffffff, false},
		{api.W32, api.W64, 0, 0, true},
		{api.W32, api.W64, -1, 0xbf800000, true},
		{api.W32, api.W64, math.MinInt32, 0xcf000000, true},
		{api.W32, api.W64, 0x80000000, 0x4f000000, true}, // a sign of 32 bits
		{api.W32, api.W64, 0xffffffff, 0x4f800000, false},
		{api.W32, api.W64, math.MaxInt64, 0x5f000000, false},
		{api.W32, api.W64, math.MinInt64, 0xdf000000, true},
		{api.W32, api.W64, math.MinInt64 + 1, 0xdf000000, false},
		{api.W64, api.W32, 0, 0, true},
		{api.W64, api.W32, -1, 0xbff0000000000000, true},
		{api.W64, api.W32, math.MaxInt32, 0x41dfffffffc00000, true},
		{api.W64, api.W32, math.MinInt32, 0xc1e0000000000000, true},
		{api.W64, api.W32, math.MinInt32 + 1, 0xc1dfffffffc00000, true},
		{api.W64, api.W64, 0, 0, true},
		{api.W64, api.W64, -1, 0xbff0000000000000, true},
		{api.W64, api.W64, 0x80000000, 0x41e0000000000000, true},
		{api.W64, api.W64, -(1<<53 - 1), 0xc33fffffffffffff, true},
		{api.W64, api.W64, -(1 << 53), 0xc340000000000000, true},
		{api.W64, api.W64, -(1<<53 + 1), 0xc340000000000000, false},
		{api.W64, api.W64, -(1<<53 + 2), 0xc340000000000001, true},
		{api.W64, api.W64, -(1<<53 + 3), 0xc340000000000002, false},
		{api.W64, api.W64, math.MaxInt64, 0x43e0000000000000, false},
		{api.W64, api.W64, math.MinInt64, 0xc3e0000000000000, true},
		{api.W64, api.W64, math.MinInt64 + 1, 0xc3e0000000000000, false},
	} {
		check(t, c.w, c.from, uint64(c.n), true, c.want, c.exact)
		// Bits above those that count make no difference.
		check(t, c.w, c.from, uint64(c.n)&all(c.from), true, c.want, c.exact)
	}
}

// P11.1

// TestNoughts: they have no sign, whatever bits there are above them, and are exact.
func TestNoughts(t *testing.T) {
	for _, w := range widths {
		for _, sign := range []bool{false, true} {
			check(t, w, api.W64, 0, sign, 0, true)
			for _, n := range []uint64{0, 1 << 32, 1 << 63, 0xffffffff00000000} {
				check(t, w, api.W32, n, sign, 0, true)
			}
		}
	}
}

// TestEnds: the least and the greatest number with a sign and without, minus one, and what is beside them.
func TestEnds(t *testing.T) {
	for _, w := range widths {
		for _, from := range widths {
			for _, n := range []uint64{0, 1, 2, minus(from) - 2, minus(from) - 1, minus(from), minus(from) + 1, all(from) - 1, all(from)} {
				checkExactly(t, w, from, n, false)
				checkExactly(t, w, from, n, true)
			}
			e, f := layout(w)
			power := func(n int) uint64 { return (1<<(e-1) - 1 + uint64(n)) << f }
			if got := FromInt(w, from, minus(from)); got != power(from-1)|minus(w) {
				t.Errorf("%d of the least one of %d: %x", w, from, got)
			}
			if got := FromUint(w, from, minus(from)); got != power(from-1) {
				t.Errorf("%d of 2^%d: %x", w, from-1, got)
			}
			if got := FromInt(w, from, all(from)); got != power(0)|minus(w) {
				t.Errorf("%d of minus one of %d: %x", w, from, got)
			}
		}
	}
}

// TestExactly: against whole numbers without an end.
func TestExactly(t *testing.T) {
	for _, w := range widths {
		for _, from := range widths {
			for _, n := range wholes(from) {
				checkExactly(t, w, from, n, false)
				checkExactly(t, w, from, n, true)
			}
		}
	}
}

// TestAgainstGo: against Go's own conversions.
func TestAgainstGo(t *testing.T) {
	for _, w := range widths {
		for _, from := range widths {
			for _, n := range append(wholes(from), words(20000)...) {
				for _, sign := range []bool{false, true} {
					if got, want := made(w, from, n, sign), byGo(w, from, n, sign); got != want {
						t.Fatalf("%d of %d, %x, signed %t: %x, not %x", w, from, n, sign, got, want)
					}
				}
			}
		}
	}
}

// TestBetweenTwo: of the middle of two floats the even one; beside it, on either side, the one that is there; of either sign.
func TestBetweenTwo(t *testing.T) {
	for _, w := range widths {
		e, f := layout(w)
		for _, from := range widths {
			for size := f + 2; size <= from; size++ {
				for _, frac := range fractions(w) {
					step := uint64(1) << (size - f - 1)
					below := (1<<f | frac) * step
					bits := (1<<(e-1)-1+uint64(size)-1)<<f | frac
					half := step / 2
					checkSides(t, w, from, below, bits, true)
					checkSides(t, w, from, below+half, bits+bits&1, false)
					if half > 1 {
						checkSides(t, w, from, below+half-1, bits, false)
						checkSides(t, w, from, below+half+1, bits+1, false)
						checkSides(t, w, from, below+1, bits, false)
						checkSides(t, w, from, below+step-1, bits+1, false)
					}
				}
			}
		}
	}
}

// checkSides holds what is made of a number without a sign, and of it with either sign where there is one of so many bits.
func checkSides(t *testing.T, w, from int, n, want uint64, exact bool) {
	t.Helper()
	check(t, w, from, n, false, want, exact)
	if n < minus(from) {
		check(t, w, from, n, true, want, exact)
	}
	if n <= minus(from) {
		check(t, w, from, -n, true, want|minus(w), exact)
	}
}

// TestSigns: what is negative is what it would be without its sign, with the float's sign.
func TestSigns(t *testing.T) {
	for _, w := range widths {
		for _, from := range widths {
			for _, n := range wholes(from) {
				want, exact := FromUint(w, from, n), Exact(w, from, n, false)
				if n&minus(from) != 0 {
					want, exact = FromUint(w, from, -n)|minus(w), Exact(w, from, -n, false)
				}
				check(t, w, from, n, true, want, exact)
			}
		}
	}
}

// TestBitsAbove: of 32 bits the upper half of n doesn't count, not even for a sign.
func TestBitsAbove(t *testing.T) {
	uppers := []uint64{0x7fffffff << 32, 0xffffffff << 32}
	for i := api.W32; i < 64; i++ {
		uppers = append(uppers, 1<<i)
	}
	lowers := []uint64{0, 1, 2, 123, 0xffffff, 0x1000000, 0x1000001, 0x1000003, math.MaxInt32, 1 << 31, 1<<31 + 1, math.MaxUint32 - 1, math.MaxUint32}
	for _, n := range words(100) {
		lowers = append(lowers, n>>32)
	}
	for _, w := range widths {
		for _, n := range lowers {
			for _, sign := range []bool{false, true} {
				want, exact := rounded(w, inWords(api.W32, n, sign))
				check(t, w, api.W32, n, sign, want, exact)
				for _, upper := range uppers {
					check(t, w, api.W32, upper|n, sign, want, exact)
				}
			}
		}
	}
}

// TestNoWidth: 0 of another w or from, and nothing is exact.
func TestNoWidth(t *testing.T) {
	l := []uint64{0, 1, 2, 5, 1 << 7, 1 << 31, 1 << 32, 1 << 63, 0xff, 0xffffff, 0x1000001, math.MaxUint32, math.MaxInt64, math.MaxUint64}
	for _, not := range notWidths {
		for _, n := range l {
			for _, sign := range []bool{false, true} {
				for _, other := range append(widths, notWidths...) {
					check(t, not, other, n, sign, 0, false)
					check(t, other, not, n, sign, 0, false)
				}
			}
		}
	}
}

// P11.2, by hand

func TestPromoteByHand(t *testing.T) {
	for _, c := range []struct{ a, want uint64 }{
		{0, 0},
		{0x80000000, 0x8000000000000000},
		{0x3f800000, 0x3ff0000000000000}, // 1
		{0xbf800000, 0xbff0000000000000},
		{0x3dcccccd, 0x3fb99999a0000000}, // near to a tenth
		{0x40490fdb, 0x400921fb60000000}, // about 3.14
		{1, 0x36a0000000000000},          // the least one: 2^-149
		{0x80000001, 0xb6a0000000000000},
		{2, 0x36b0000000000000}, // subnormal ones
		{3, 0x36b8000000000000},
		{0x400000, 0x3800000000000000},
		{0x400001, 0x3800000040000000},
		{0x7fffff, 0x380fffffc0000000},
		{0x800000, 0x3810000000000000}, // the least one that isn't
		{0x800001, 0x3810000020000000},
		{0x7f7fffff, 0x47efffffe0000000}, // the greatest one
		{0xff7fffff, 0xc7efffffe0000000},
		{0x7f800000, 0x7ff0000000000000}, // infinite ones
		{0xff800000, 0xfff0000000000000},
		{0x7fc00000, 0x7ff8000000000000}, // no numbers
		{0xffc00000, 0x7ff8000000000000},
		{0x7f800001, 0x7ff8000000000000},
		{0xff800001, 0x7ff8000000000000},
		{0xffffffff, 0x7ff8000000000000},
		{0x3ff0000000000000, 0}, // bits above: 1 of 64 bits
		{0xbff0000080000000, 0x8000000000000000},
		{0xffffffff3f800000, 0x3ff0000000000000},
	} {
		if got := Promote(c.a); got != c.want {
			t.Errorf("%x: %x, not %x", c.a, got, c.want)
		}
	}
}

// TestDemoteByHand: each row once more with the other sign.
func TestDemoteByHand(t *testing.T) {
	for _, c := range []struct{ a, want uint64 }{
		{0, 0},
		{0x3ff0000000000000, 0x3f800000}, // 1
		{0x3fb999999999999a, 0x3dcccccd}, // near to a tenth: up
		{0x400921fb54442d18, 0x40490fdb}, // about 3.14: up
		{0x3fd5555555555555, 0x3eaaaaab}, // near to a third: up
		{0x3fe5555555555555, 0x3f2aaaab},
		{0x3ff0000000000001, 0x3f800000}, // the next one above 1 of 64 bits
		{0x3fefffffffffffff, 0x3f800000}, // the next one below it
		{0x3ff000000fffffff, 0x3f800000}, // below the middle
		{0x3ff0000010000000, 0x3f800000}, // the middle: the even one is below
		{0x3ff0000010000001, 0x3f800001}, // above it
		{0x3ff0000020000000, 0x3f800001}, // the next one of 32 bits
		{0x3ff000002fffffff, 0x3f800001},
		{0x3ff0000030000000, 0x3f800002}, // the middle: the even one is above
		{0x3ff0000030000001, 0x3f800002},
		{0x3fffffffe0000000, 0x3fffffff}, // the last one below 2
		{0x3fffffffefffffff, 0x3fffffff},
		{0x3ffffffff0000000, 0x40000000}, // between that and 2
		{0x3fffffffffffffff, 0x40000000},
		{0x47efffffe0000000, 0x7f7fffff}, // the greatest one of 32 bits
		{0x47efffffefffffff, 0x7f7fffff}, // below the middle of it and 2^128
		{0x47effffff0000000, 0x7f800000}, // that middle
		{0x47effffff0000001, 0x7f800000}, // above it
		{0x47f0000000000000, 0x7f800000}, // 2^128
		{0x7fe0000000000000, 0x7f800000}, // far beyond
		{0x7fefffffffffffff, 0x7f800000},
		{0x7ff0000000000000, 0x7f800000}, // the infinite one
		{0x3810000000000000, 0x800000},   // the least one of 32 bits that isn't subnormal
		{0x380fffffe0000000, 0x800000},   // the middle of it and the one below
		{0x380fffffdfffffff, 0x7fffff},   // below that
		{0x380fffffc0000000, 0x7fffff},   // the greatest subnormal one
		{0x380fffffa0000000, 0x7ffffe},   // the middle of it and the one below
		{0x380fffffa0000001, 0x7fffff},
		{0x3800000000000000, 0x400000},
		{0x36c0000000000000, 4},
		{0x36bc000000000000, 4}, // 3.5 times the least one
		{0x36b8000000000000, 3}, // 3 times
		{0x36b4000000000000, 2}, // 2.5 times
		{0x36b4000000000001, 3}, // a bit more
		{0x36b0000000000000, 2}, // twice
		{0x36a8000000000000, 2}, // 1.5 times
		{0x36a7ffffffffffff, 1}, // a bit less
		{0x36a0000000000000, 1}, // the least one
		{0x369fffffffffffff, 1}, // a bit less
		{0x3690000000000001, 1}, // a bit more than half of it
		{0x3690000000000000, 0}, // half of it
		{0x368fffffffffffff, 0}, // a bit less
		{0x3680000000000000, 0}, // a quarter
		{0x10000000000000, 0},   // far too small
		{0xfffffffffffff, 0},    // subnormal of 64 bits
		{0x8000000000000, 0},
		{0x3f800000, 0},                  // 1 of 32 bits
		{0x7fc00000, 0},                  // no number of 32 bits
		{1, 0},                           // the least one
		{0x47e0000000000000, 0x7f000000}, // 2^127
	} {
		if got := Demote(c.a); got != c.want {
			t.Errorf("%x: %x, not %x", c.a, got, c.want)
		}
		if got := Demote(c.a | 1<<63); got != c.want|1<<31 {
			t.Errorf("%x: %x, not %x", c.a|1<<63, got, c.want|1<<31)
		}
	}
}

// P11.2

// TestNoNumber: of either width, sign and all fractions the canonical one.
func TestNoNumber(t *testing.T) {
	for _, none := range noNumbers(api.W32) {
		if got := Promote(none); got != canonical(api.W64) {
			t.Fatalf("Promote of %x: %x", none, got)
		}
	}
	for _, none := range noNumbers(api.W64) {
		if got := Demote(none); got != canonical(api.W32) {
			t.Fatalf("Demote of %x: %x", none, got)
		}
	}
}

// TestInfiniteAndNought: they stay what they are, of either sign.
func TestInfiniteAndNought(t *testing.T) {
	narrow := both(api.W32, []uint64{0, infinite(api.W32)})
	broad := both(api.W64, []uint64{0, infinite(api.W64)})
	for i := range narrow {
		if got := Promote(narrow[i]); got != broad[i] {
			t.Errorf("Promote of %x: %x", narrow[i], got)
		}
		if got := Demote(broad[i]); got != narrow[i] {
			t.Errorf("Demote of %x: %x", broad[i], got)
		}
	}
}

// TestPromoteAgainstGo: each exponent of 32 bits.
func TestPromoteAgainstGo(t *testing.T) {
	l := everywhere(api.W32)
	for _, n := range words(20000) {
		l = append(l, n>>32)
	}
	for _, a := range l {
		want := canonical(api.W64)
		if isNumber(api.W32, a) {
			want = math.Float64bits(float(api.W32, a))
		}
		if got := Promote(a); got != want {
			t.Fatalf("%x: %x, not %x", a, got, want)
		}
	}
}

// TestDemoteAgainstGo: each exponent of 64 bits.
func TestDemoteAgainstGo(t *testing.T) {
	for _, a := range append(everywhere(api.W64), words(20000)...) {
		want := canonical(api.W32)
		if isNumber(api.W64, a) {
			want = uint64(math.Float32bits(float32(float(api.W64, a))))
		}
		if got := Demote(a); got != want {
			t.Fatalf("%x: %x, not %x", a, got, want)
		}
	}
}

// TestDemoteBetween: floats of 32 bits, and of 64 what lies between each of them and the next one: of the middle the even one, beside it the one that is there. Above the greatest one stands 2^128, whose bits are those of the infinite one.
func TestDemoteBetween(t *testing.T) {
	var l []uint64
	for _, a := range everywhere(api.W32) {
		l = append(l, a&^minus(api.W32))
	}
	for _, n := range words(5000) {
		l = append(l, n>>33)
	}
	for _, a := range l {
		if a >= infinite(api.W32) {
			continue
		}
		// Twice a float of 32 bits, and the sum of two that are side by side, are floats of 64.
		next := float(api.W32, a+1)
		if a+1 == infinite(api.W32) {
			next = math.Ldexp(1, 128)
		}
		middle := math.Float64bits((float(api.W32, a) + next) / 2)
		for _, c := range []struct{ a, want uint64 }{
			{math.Float64bits(float(api.W32, a)), a},
			{math.Float64bits(float(api.W32, a)) + 1, a},
			{middle - 1, a},
			{middle, a + a&1},
			{middle + 1, a + 1},
			{math.Float64bits(next) - 1, a + 1},
			{math.Float64bits(next), a + 1},
		} {
			if got := Demote(c.a); got != c.want {
				t.Fatalf("%x: %x, not %x", c.a, got, c.want)
			}
			if got := Demote(c.a | minus(api.W64)); got != c.want|minus(api.W32) {
				t.Fatalf("%x: %x, not %x", c.a|minus(api.W64), got, c.want|minus(api.W32))
			}
		}
	}
}

// TestPromoteBitsAbove: the upper half of what is handed in doesn't count.
func TestPromoteBitsAbove(t *testing.T) {
	uppers := []uint64{0x7ff00000 << 32, 0x7ff80001 << 32, 0xbff00000 << 32, 0xffffffff << 32}
	for i := api.W32; i < 64; i++ {
		uppers = append(uppers, 1<<i)
	}
	for _, a := range append(noNumbers(api.W32), both(api.W32, []uint64{0, 1, 0x7fffff, 0x800000, 0x3f800000, 0x40490fdb, 0x7f7fffff, infinite(api.W32)})...) {
		for _, upper := range uppers {
			if got := Promote(upper | a); got != Promote(a) {
				t.Fatalf("%x: %x, not %x", upper|a, got, Promote(a))
			}
		}
	}
}

// P11.3

// TestThereAndBack: what is promoted is demoted to what it was, no number to the canonical one.
func TestThereAndBack(t *testing.T) {
	l := everywhere(api.W32)
	for _, n := range words(20000) {
		l = append(l, n>>32)
	}
	for _, a := range l {
		want := a
		if !isNumber(api.W32, a) {
			want = canonical(api.W32)
		}
		if got := Demote(Promote(a)); got != want {
			t.Fatalf("%x: %x", a, got)
		}
	}
}

// TestExactByDigits: a number is a float just if its digits, noughts at their end left out, are no more than a float has.
func TestExactByDigits(t *testing.T) {
	for _, w := range widths {
		_, f := layout(w)
		for _, from := range widths {
			for _, n := range wholes(from) {
				for _, sign := range []bool{false, true} {
					digits := inWords(from, n, sign).Text(2)
					digits = strings.TrimRight(strings.TrimPrefix(digits, "-"), "0")
					if got := Exact(w, from, n, sign); got != (len(digits) <= f+1) {
						t.Fatalf("%d of %d, %x, signed %t: %t, of %s", w, from, n, sign, got, digits)
					}
				}
			}
		}
	}
}

// TestExactIsThatNumber: whether what FromUint and FromInt make is that number, as Go reads it.
func TestExactIsThatNumber(t *testing.T) {
	for _, w := range widths {
		for _, from := range widths {
			for _, n := range wholes(from) {
				for _, sign := range []bool{false, true} {
					x := new(big.Rat).SetFloat64(float(w, made(w, from, n, sign)))
					want := x.Cmp(new(big.Rat).SetInt(inWords(from, n, sign))) == 0
					if got := Exact(w, from, n, sign); got != want {
						t.Fatalf("%d of %d, %x, signed %t: %t", w, from, n, sign, got)
					}
				}
			}
		}
	}
}

// TestShortAreExact: whole numbers of at most as many bits as a float has are exact, of either sign; of one more just the even ones are.
func TestShortAreExact(t *testing.T) {
	for _, w := range widths {
		_, f := layout(w)
		most := uint64(1) << (f + 1)
		for _, from := range widths {
			for i, n := range words(5000) {
				n >>= 64 - min(f+1, from-1) + i%min(f, from-2)
				checkShort(t, w, from, n)
			}
			if from-1 < f+1 {
				continue
			}
			for d := range uint64(200) {
				checkShort(t, w, from, most-d-1)
				odd, even := most+2*d+1, most+2*d
				for _, n := range []uint64{odd, -odd} {
					if Exact(w, from, n, true) {
						t.Fatalf("%d of %d: %d is exact", w, from, int64(n))
					}
				}
				checkShort(t, w, from, even)
			}
		}
	}
}

// checkShort holds that a number is exact, and of either sign what is read in the decimal digits of the float that is made of it.
func checkShort(t *testing.T, w, from int, n uint64) {
	t.Helper()
	for _, m := range []uint64{n, -n} {
		if !Exact(w, from, m, true) {
			t.Fatalf("%d of %d: %d is not exact", w, from, int64(m))
		}
		digits := strconv.FormatFloat(float(w, FromInt(w, from, m)), 'f', 0, 64)
		if digits != strconv.FormatInt(int64(m), 10) {
			t.Fatalf("%d of %d: %d is %s", w, from, int64(m), digits)
		}
	}
	if !Exact(w, from, n, false) || FromUint(w, from, n) != FromInt(w, from, n) {
		t.Fatalf("%d of %d: %d without a sign", w, from, n)
	}
}
