package sum

import (
	"math"
	"math/big"
	"slices"
	"testing"

	"trunnion/api"
)

var (
	widths = []int{api.W32, api.W64}
	signs  = []bool{false, true}
)

// notWidths: numbers that are no width, those near to one and those far away.
var notWidths = []int{0, 1, -1, 7, 8, 16, 23, 31, 33, 52, 63, 65, 96, 128, -32, -64, 32 + 1<<32, 64 + 1<<32, math.MaxInt, math.MinInt}

// layout: the sizes of a width's fields, written out once more.
func layout(w int) (e, f int) {
	if w == api.W32 {
		return 8, 23
	}
	return 11, 52
}

// signBit: the sign of a float of that width.
func signBit(w int, neg bool) uint64 {
	if neg {
		return 1 << (w - 1)
	}
	return 0
}

// infinite: the infinite one without a sign.
func infinite(w int) uint64 {
	e, f := layout(w)
	return (1<<e - 1) << f
}

// canonical: the canonical NaN.
func canonical(w int) uint64 {
	_, f := layout(w)
	return infinite(w) | 1<<(f-1)
}

// isNan: whether the float is no number.
func isNan(w int, bits uint64) bool { return bits&^signBit(w, true) > infinite(w) }

// isFinite: whether the float is finite, nought too.
func isFinite(w int, bits uint64) bool { return bits&^signBit(w, true) < infinite(w) }

// words: numbers of 64 bits without a pattern, the same at each run.
func words(n int) []uint64 {
	l := make([]uint64, n)
	x := uint64(0x9e3779b97f4a7c15)
	for i := range l {
		x ^= x << 13
		x ^= x >> 7
		x ^= x << 17
		l[i] = x
	}
	return l
}

// number: the float that Go makes of the bits. Each float of 32 bits is one of 64.
func number(w int, bits uint64) float64 {
	if w == api.W32 {
		return float64(math.Float32frombits(uint32(bits)))
	}
	return math.Float64frombits(bits)
}

// bitsOf: the bits of a float of Go, of no number the canonical ones.
func bitsOf(w int, x float64) uint64 {
	switch {
	case math.IsNaN(x):
		return canonical(w)
	case w == api.W32:
		return uint64(math.Float32bits(float32(x)))
	}
	return math.Float64bits(x)
}

// goSum: what Go's own floats make of it.
func goSum(w int, a, b uint64) uint64 {
	if w == api.W32 {
		return bitsOf(w, float64(math.Float32frombits(uint32(a))+math.Float32frombits(uint32(b))))
	}
	return bitsOf(w, number(w, a)+number(w, b))
}

// exactSum: the sum of two finite ones, made without a loss and rounded once by package big.
func exactSum(w int, a, b uint64) uint64 {
	// From the highest bit of the greatest one of 64 bits to the least one there are fewer than 2200.
	exact := func() *big.Float { return new(big.Float).SetPrec(2200) }
	s := exact().Add(exact().SetFloat64(number(w, a)), exact().SetFloat64(number(w, b)))
	if s.Sign() == 0 {
		return a & b & signBit(w, true)
	}
	if w == api.W32 {
		r, _ := s.Float32()
		return uint64(math.Float32bits(r))
	}
	r, _ := s.Float64()
	return math.Float64bits(r)
}

// fractions: the edges of a fraction's field, and some numbers between.
func fractions(w int) []uint64 {
	_, f := layout(w)
	all := uint64(1)<<f - 1
	l := []uint64{0, 1, 2, 3, all >> 1, all>>1 + 1, all>>1 + 2, all - 1, all}
	for _, n := range words(3) {
		l = append(l, n&all)
	}
	return l
}

// samples: floats of both signs, of the exponents' edges and of some between: noughts, infinite ones and such as are no number among them.
func samples(w int) []uint64 {
	e, f := layout(w)
	last := uint64(1)<<e - 1
	var l []uint64
	for _, exp := range []uint64{0, 1, 2, 3, 30, last/2 - uint64(f) - 1, last / 2, last/2 + 1, last/2 + uint64(f) + 1, last - 66, last - 2, last - 1, last} {
		for _, frac := range fractions(w) {
			for _, neg := range signs {
				l = append(l, signBit(w, neg)|exp<<f|frac)
			}
		}
	}
	return l
}

// gaps: how far exponents' fields lie apart, from the least one on: all that could matter to one that is rounded, and one that is farther.
func gaps(w int) []uint64 {
	e, _ := layout(w)
	var l []uint64
	for n := range uint64(135) {
		l = append(l, n)
	}
	return append(l, 1<<e/2+7)
}

// checkSum holds the sum of two, either way round, and the difference that is the same, against what is wanted.
func checkSum(t *testing.T, w int, a, b, want uint64) {
	t.Helper()
	if got := Add(w, a, b); got != want {
		t.Fatalf("%d %x and %x: %x, not %x", w, a, b, got, want)
	}
	if got := Add(w, b, a); got != want {
		t.Fatalf("%d %x and %x: %x, not %x", w, b, a, got, want)
	}
	if got := Sub(w, a, b^signBit(w, true)); got != want {
		t.Fatalf("%d %x less %x: %x, not %x", w, a, b^signBit(w, true), got, want)
	}
	if got := Sub(w, b, a^signBit(w, true)); got != want {
		t.Fatalf("%d %x less %x: %x, not %x", w, b, a^signBit(w, true), got, want)
	}
}

// P4.1

func TestExamples(t *testing.T) {
	const one, half = 0x3ff0000000000000, 0x3ca0000000000000 // 1, and 2^-53
	if got := Add(api.W64, one, half); got != one {
		t.Errorf("1 and 2^-53: %x", got)
	}
	if got := Sub(api.W64, one, one); got != 0 {
		t.Errorf("1 less 1: %x", got)
	}
}

func TestByHand(t *testing.T) {
	for _, c := range []struct {
		w          int
		a, b, want uint64
	}{
		{api.W32, 0x3f800000, 0x40000000, 0x40400000},
		{api.W32, 0x3f800000, 0xc0000000, 0xbf800000},
		{api.W32, 0xbf800000, 0xc0000000, 0xc0400000},
		{api.W64, 0x3ff0000000000000, 0x4000000000000000, 0x4008000000000000},
		{api.W64, 0x3fb999999999999a, 0x3fc999999999999a, 0x3fd3333333333334}, // 0.1 and 0.2
		// Ties, to even: down from 1, up from what comes behind it; and numbers just beside them.
		{api.W32, 0x3f800000, 0x33800000, 0x3f800000},
		{api.W32, 0x3f800000, 0x33800001, 0x3f800001},
		{api.W32, 0x3f800001, 0x33800000, 0x3f800002},
		{api.W32, 0x3f800001, 0x337fffff, 0x3f800001},
		{api.W32, 0xbf800001, 0xb3800000, 0xbf800002},
		{api.W64, 0x3ff0000000000001, 0x3ca0000000000000, 0x3ff0000000000002},
		{api.W64, 0x3ff0000000000000, 0x3ca0000000000001, 0x3ff0000000000001},
		// Below a power of two floats lie twice as near.
		{api.W32, 0x3f800000, 0xb3000000, 0x3f800000},
		{api.W32, 0x3f800000, 0xb3000001, 0x3f7fffff},
		{api.W32, 0x3f800000, 0xb2ffffff, 0x3f800000},
		{api.W64, 0x3ff0000000000000, 0xbc90000000000000, 0x3ff0000000000000},
		{api.W64, 0x3ff0000000000000, 0xbc90000000000001, 0x3fefffffffffffff},
		// The least ones, and what goes from them to the others and back.
		{api.W32, 1, 1, 2},
		{api.W32, 1, 0x80000002, 0x80000001},
		{api.W32, 0x007fffff, 1, 0x00800000},
		{api.W32, 0x00800000, 0x80000001, 0x007fffff},
		{api.W64, 0x000fffffffffffff, 1, 0x0010000000000000},
		{api.W64, 0x0010000000000000, 0x8000000000000001, 0x000fffffffffffff},
		// Nearly all bits fall away.
		{api.W32, 0x3f800001, 0xbf800000, 0x34000000},
		{api.W64, 0x3ff0000000000000, 0xbfefffffffffffff, 0x3ca0000000000000},
		// At the greatest one: half of its last bit is rounded to the infinite one, all that is less isn't.
		{api.W32, 0x7f7fffff, 0x73000000, 0x7f800000},
		{api.W32, 0x7f7fffff, 0x72ffffff, 0x7f7fffff},
		{api.W32, 0xff7fffff, 0xf3000000, 0xff800000},
		{api.W32, 0xff7fffff, 0xf2ffffff, 0xff7fffff},
		{api.W32, 0x7f000000, 0x7f000000, 0x7f800000},
		{api.W32, 0x7f7fffff, 0x7f7fffff, 0x7f800000},
		{api.W64, 0x7fefffffffffffff, 0x7c90000000000000, 0x7ff0000000000000},
		{api.W64, 0x7fefffffffffffff, 0x7c8fffffffffffff, 0x7fefffffffffffff},
		{api.W64, 0xffefffffffffffff, 0xffefffffffffffff, 0xfff0000000000000},
		// As far apart as they can be.
		{api.W32, 0x7f7fffff, 1, 0x7f7fffff},
		{api.W32, 0x7f7fffff, 0x80000001, 0x7f7fffff},
		{api.W32, 0x7f000000, 0x80000001, 0x7f000000},
		{api.W64, 0x7fefffffffffffff, 1, 0x7fefffffffffffff},
		{api.W64, 0xffe0000000000000, 1, 0xffe0000000000000},
	} {
		checkSum(t, c.w, c.a, c.b, c.want)
	}
}

// TestNoughts: two of the same sign keep it, each other sum that is 0 has none.
func TestNoughts(t *testing.T) {
	for _, w := range widths {
		minus := signBit(w, true)
		for _, c := range [][3]uint64{
			{0, 0, 0},
			{minus, minus, minus},
			{0, minus, 0},
			{minus, 0, 0},
		} {
			if got := Add(w, c[0], c[1]); got != c[2] {
				t.Errorf("%d %x and %x: %x", w, c[0], c[1], got)
			}
			if got := Sub(w, c[0], c[1]^minus); got != c[2] {
				t.Errorf("%d %x less %x: %x", w, c[0], c[1]^minus, got)
			}
		}
	}
}

// TestInfinite holds the infinite ones against each other and against all that is finite.
func TestInfinite(t *testing.T) {
	for _, w := range widths {
		plus, minus := infinite(w), infinite(w)|signBit(w, true)
		checkSum(t, w, plus, plus, plus)
		checkSum(t, w, minus, minus, minus)
		checkSum(t, w, plus, minus, canonical(w))
		for _, b := range samples(w) {
			if isFinite(w, b) {
				checkSum(t, w, plus, b, plus)
				checkSum(t, w, minus, b, minus)
			}
		}
		if a, b := Sub(w, plus, plus), Sub(w, minus, minus); a != canonical(w) || b != canonical(w) {
			t.Errorf("%d infinite less itself: %x, %x", w, a, b)
		}
		if a, b := Sub(w, plus, minus), Sub(w, minus, plus); a != plus || b != minus {
			t.Errorf("%d infinite less the other: %x, %x", w, a, b)
		}
	}
}

// TestNoNumber: of whatever bits, in either place, beside whatever else.
func TestNoNumber(t *testing.T) {
	for _, w := range widths {
		all := samples(w)
		for _, a := range all {
			if !isNan(w, a) {
				continue
			}
			for _, b := range all {
				checkSum(t, w, a, b, canonical(w))
			}
		}
	}
}

// TestAgainstGo: at exponents all over the range, with each gap between them that matters, what Go's own floats make.
func TestAgainstGo(t *testing.T) {
	for _, w := range widths {
		e, f := layout(w)
		fracs := fractions(w)
		step := uint64(1)<<e/60 + 1
		for exp := uint64(0); exp < 1<<e; exp += step {
			for _, gap := range gaps(w) {
				if gap > exp {
					break
				}
				for _, frac := range fracs {
					for _, low := range fracs {
						a, b := exp<<f|frac, (exp-gap)<<f|low
						minus := a | signBit(w, true)
						checkSum(t, w, a, b, goSum(w, a, b))
						checkSum(t, w, minus, b, goSum(w, minus, b))
					}
				}
			}
		}
	}
}

// TestSamplesAgainstGo: all pairs of the edges, of each sign.
func TestSamplesAgainstGo(t *testing.T) {
	for _, w := range widths {
		all := samples(w)
		for _, a := range all {
			for _, b := range all {
				checkSum(t, w, a, b, goSum(w, a, b))
			}
		}
	}
}

// TestAgainstBig: sums that are made without a loss and rounded once, at the range's ends and without a pattern.
func TestAgainstBig(t *testing.T) {
	for _, w := range widths {
		e, f := layout(w)
		random := words(20000)
		for i := 0; i+1 < len(random); i += 2 {
			a, b := random[i]>>(64-w), random[i+1]>>(64-w)
			if i%4 == 0 {
				// Exponents without a pattern lie far apart nearly always.
				near := (a>>f + b%130) & (1<<e - 1)
				b = b&^infinite(w) | near<<f
			}
			if isFinite(w, a) && isFinite(w, b) {
				checkSum(t, w, a, b, exactSum(w, a, b))
			}
		}
		for _, frac := range fractions(w) {
			for _, exp := range []uint64{1, 70, 1<<e - 2} {
				for _, low := range fractions(w) {
					for _, neg := range signs {
						a, b := exp<<f|frac, low|signBit(w, neg)
						checkSum(t, w, a, b, exactSum(w, a, b))
					}
				}
			}
		}
	}
}

// TestBitsAbove: of 32 bits the upper half of what is handed in doesn't count, not even for a sign or for no number.
func TestBitsAbove(t *testing.T) {
	above := []uint64{1 << 32, 1 << 63, 0x7ff00000 << 32, 0x7ff80001 << 32, 0xffffffff << 32}
	for _, a := range samples(api.W32) {
		for _, b := range []uint64{0, 1 << 31, 1, 0x3f800000, 0xbf800000, 0x7f7fffff, 0x7f800000, 0xff800000, 0x7fc00000, a, a ^ 1<<31} {
			plus, less := Add(api.W32, a, b), Sub(api.W32, a, b)
			for i, x := range above {
				y := above[(i+1)%len(above)]
				for _, c := range [][2]uint64{{x | a, b}, {a, x | b}, {x | a, y | b}} {
					if p, l := Add(api.W32, c[0], c[1]), Sub(api.W32, c[0], c[1]); p != plus || l != less {
						t.Fatalf("%x, %x: %x and %x, not %x and %x", c[0], c[1], p, l, plus, less)
					}
				}
				if got, want := Total(api.W32, x|a, y|b), Total(api.W32, a, b); got != want {
					t.Fatalf("%x, %x in all: %x, not %x", x|a, y|b, got, want)
				}
			}
		}
	}
}

func TestNoWidth(t *testing.T) {
	some := []uint64{0, 1, 2, 1 << 31, 1 << 63, 0x3f800000, 0x7f800000, 0x7f800001, 0xff800000, 0x3ff0000000000000, 0x7ff0000000000000, 0xfff0000000000000, 0x7ff8000000000001, math.MaxUint64}
	for _, w := range notWidths {
		if got := Total(w); got != 0 {
			t.Errorf("%d: %x", w, got)
		}
		if got := Total(w, some...); got != 0 {
			t.Errorf("%d: %x", w, got)
		}
		for _, a := range some {
			if got := Total(w, a); got != 0 {
				t.Errorf("%d %x: %x", w, a, got)
			}
			for _, b := range some {
				if p, l := Add(w, a, b), Sub(w, a, b); p != 0 || l != 0 {
					t.Errorf("%d %x %x: %x, %x", w, a, b, p, l)
				}
			}
		}
	}
}

// P4.2

func TestTotal(t *testing.T) {
	const minus32, minus64 = 1 << 31, 1 << 63
	for _, c := range []struct {
		name string
		w    int
		list []uint64
		want uint64
	}{
		{"none, 32", api.W32, nil, 0},
		{"none, 64", api.W64, []uint64{}, 0},
		{"one", api.W32, []uint64{0xc0400000}, 0xc0400000},
		{"the least one", api.W64, []uint64{minus64 | 1}, minus64 | 1},
		{"1, 2 and 3", api.W32, []uint64{0x3f800000, 0x40000000, 0x40400000}, 0x40c00000},
		// It begins with nought without a sign, so noughts never come to one that has a sign.
		{"negative nought", api.W32, []uint64{minus32}, 0},
		{"negative noughts", api.W64, []uint64{minus64, minus64, minus64}, 0},
		{"no number", api.W32, []uint64{0xff800001}, 0x7fc00000},
		{"no number among others", api.W64, []uint64{0x3ff0000000000000, 0xfff0000000000001, 0x7ff0000000000000}, 0x7ff8000000000000},
		{"an infinite one", api.W64, []uint64{0x3ff0000000000000, 0xfff0000000000000, 0x7fefffffffffffff}, 0xfff0000000000000},
		{"both infinite ones", api.W32, []uint64{0x7f800000, 0x3f800000, 0xff800000, 0x3f800000}, 0x7fc00000},
		// Each sum is rounded, from the first one on: 2^53 swallows a 1 that comes behind it, but not two that came ahead.
		{"2^53, 1, 1", api.W64, []uint64{0x4340000000000000, 0x3ff0000000000000, 0x3ff0000000000000}, 0x4340000000000000},
		{"1, 1, 2^53", api.W64, []uint64{0x3ff0000000000000, 0x3ff0000000000000, 0x4340000000000000}, 0x4340000000000001},
		{"1, 2^53, -2^53", api.W64, []uint64{0x3ff0000000000000, 0x4340000000000000, 0xc340000000000000}, 0},
		{"2^53, -2^53, 1", api.W64, []uint64{0x4340000000000000, 0xc340000000000000, 0x3ff0000000000000}, 0x3ff0000000000000},
		{"the greatest one, twice, and less", api.W32, []uint64{0x7f7fffff, 0x7f7fffff, 0xff7fffff}, 0x7f800000},
		{"the greatest one, less, and twice", api.W32, []uint64{0x7f7fffff, 0xff7fffff, 0x7f7fffff}, 0x7f7fffff},
	} {
		if got := Total(c.w, c.list...); got != c.want {
			t.Errorf("%s: %x, not %x", c.name, got, c.want)
		}
	}
}

// TestTotalStepByStep: at each length it is what Go's floats come to, added one by one.
func TestTotalStepByStep(t *testing.T) {
	for _, w := range widths {
		e, f := layout(w)
		var list []uint64
		var want uint64
		for i, n := range words(3000) {
			// Exponents near to 1's, so that each one counts.
			bits := n>>(64-w)&^infinite(w) | (1<<e/2+n%16)<<f
			list = append(list, bits)
			want = goSum(w, want, bits)
			if i%37 == 0 || i < 10 {
				if got := Total(w, list...); got != want {
					t.Fatalf("%d of %d: %x, not %x", w, len(list), got, want)
				}
			}
		}
	}
}

// TestTotalLeavesTheList: what is handed in is not changed, what lies behind it neither.
func TestTotalLeavesTheList(t *testing.T) {
	all := []uint64{1<<63 | 0x3f800000, 0x40000000, 0x7fc00001, 0xffffffffffffffff, 5}
	kept := slices.Clone(all)
	Total(api.W32, all[:3]...)
	Total(api.W64, all[:0]...)
	if !slices.Equal(all, kept) {
		t.Errorf("%x, not %x", all, kept)
	}
}

// P4.3

func TestOrderOfTwo(t *testing.T) {
	for _, w := range widths {
		all := samples(w)
		for _, a := range all {
			for _, b := range all {
				if one, other := Add(w, a, b), Add(w, b, a); one != other {
					t.Fatalf("%d %x, %x: %x and %x", w, a, b, one, other)
				}
			}
		}
	}
}

// TestLessItself: nought without a sign of all that is finite, at each exponent.
func TestLessItself(t *testing.T) {
	for _, w := range widths {
		e, f := layout(w)
		for exp := range uint64(1)<<e - 1 {
			for _, frac := range fractions(w) {
				for _, neg := range signs {
					a := signBit(w, neg) | exp<<f | frac
					if got := Sub(w, a, a); got != 0 {
						t.Fatalf("%d %x less itself: %x", w, a, got)
					}
					if a<<1<<(64-w) == 0 {
						continue // two noughts of the same sign keep it
					}
					if got := Add(w, a, a^signBit(w, true)); got != 0 {
						t.Fatalf("%d %x and its other: %x", w, a, got)
					}
				}
			}
		}
	}
}

// TestSumWithNought: what isn't nought is what it was, whichever nought is added or taken away, and on which side.
func TestSumWithNought(t *testing.T) {
	for _, w := range widths {
		e, f := layout(w)
		for exp := range uint64(1) << e {
			for _, frac := range fractions(w) {
				for _, neg := range signs {
					a := signBit(w, neg) | exp<<f | frac
					want := a
					if isNan(w, a) {
						want = canonical(w)
					}
					if a<<1<<(64-w) == 0 {
						continue
					}
					checkSum(t, w, a, 0, want)
					checkSum(t, w, a, signBit(w, true), want)
					if got := Total(w, a); got != want {
						t.Fatalf("%d %x alone: %x", w, a, got)
					}
				}
			}
		}
	}
}
