package order

import (
	"cmp"
	"math"
	"slices"
	"testing"

	"trunnion/api"
)

var widths = []int{api.W32, api.W64}

// notWidths: numbers that are no width, those near to one and those far away.
var notWidths = []int{0, 1, -1, 7, 8, 9, 16, 23, 31, 33, 52, 63, 65, 96, 128, -32, -64, 32 + 1<<32, 64 + 1<<32, math.MaxInt, math.MinInt}

// layout: the sizes of a width's fields, written out once more.
func layout(w int) (e, f int) {
	if w == api.W32 {
		return 8, 23
	}
	return 11, 52
}

// minus: the sign of a float of that width.
func minus(w int) uint64 { return 1 << (w - 1) }

// infinite: the infinite one without a sign.
func infinite(w int) uint64 {
	e, f := layout(w)
	return (1<<e - 1) << f
}

// canonical: the canonical NaN.
func canonical(w int) uint64 {
	_, f := layout(w)
	return infinite(w) | 1<<(f-1)
}

// least: the least float that is not subnormal.
func least(w int) uint64 {
	_, f := layout(w)
	return 1 << f
}

// one: the float 1.
func one(w int) uint64 {
	e, f := layout(w)
	return (1<<(e-1) - 1) << f
}

// isNumber: whether these bits of a float are not those of no number.
func isNumber(w int, x uint64) bool { return x&^minus(w) <= infinite(w) }

// words: numbers of 64 bits without a pattern, the same at each run.
func words(n int) []uint64 {
	l := make([]uint64, n)
	x := uint64(0x9e3779b97f4a7c15)
	for i := range l {
		x ^= x << 13
		x ^= x >> 7
		x ^= x << 17
		l[i] = x
	}
	return l
}

// number: the float that Go makes of the bits. Each float of 32 bits is one of 64.
func number(w int, x uint64) float64 {
	if w == api.W32 {
		return float64(math.Float32frombits(uint32(x)))
	}
	return math.Float64frombits(x)
}

// bitsOf: the bits of a float of 64 bits that is one of that width too; of no number those of the canonical one.
func bitsOf(w int, x float64) uint64 {
	switch {
	case x != x:
		return canonical(w)
	case w == api.W32:
		return uint64(math.Float32bits(float32(x)))
	}
	return math.Float64bits(x)
}

// fractions: the edges of a fraction's field, and some numbers between.
func fractions(w int) []uint64 {
	_, f := layout(w)
	all := uint64(1)<<f - 1
	l := []uint64{0, 1, 2, 3, all >> 1, all>>1 + 1, all>>1 + 2, all - 1, all}
	for _, n := range words(3) {
		l = append(l, n&all)
	}
	return l
}

// everywhere: floats without a sign of each exponent's field: nought, subnormal ones, the infinite one and such as are no number among them.
func everywhere(w int) []uint64 {
	e, f := layout(w)
	var l []uint64
	for exp := range uint64(1) << e {
		for _, frac := range fractions(w) {
			l = append(l, exp<<f|frac)
		}
	}
	return l
}

// signed: the floats, and beside each of them the one of the other sign.
func signed(w int, l []uint64) []uint64 {
	var both []uint64
	for _, x := range l {
		both = append(both, x, x^minus(w))
	}
	return both
}

// numbers: floats of either sign, few enough to be held against each other all, with three neighbours in a row wherever the fields change.
func numbers(w int) []uint64 {
	_, f := layout(w)
	l := []uint64{0, 1, 2, 3, 1<<(f-1) - 1, 1 << (f - 1), infinite(w) - 2, infinite(w) - 1, infinite(w)}
	for _, x := range []uint64{least(w), least(w) << 1, one(w), one(w) + 1<<f, one(w) + 3<<(f-1), one(w) - 1<<f, infinite(w) - 1<<f} {
		l = append(l, x-1, x, x+1)
	}
	for _, n := range words(12) {
		if x := n >> (65 - w); x < infinite(w) {
			l = append(l, x)
		}
	}
	return signed(w, l)
}

// noNumbers: what is no number, of either sign: the canonical one, and each bit of the fraction's field alone.
func noNumbers(w int) []uint64 {
	_, f := layout(w)
	l := []uint64{canonical(w), canonical(w) + 1, canonical(w) - 1, infinite(w) | (1<<f - 1)}
	for i := range f {
		l = append(l, infinite(w)|1<<i)
	}
	return signed(w, l)
}

// answers are what the six comparisons say.
type answers struct{ eq, ne, lt, gt, le, ge bool }

// same, below, above and neither: what is answered of two that are so.
var (
	same    = answers{eq: true, le: true, ge: true}
	below   = answers{ne: true, lt: true, le: true}
	above   = answers{ne: true, gt: true, ge: true}
	neither = answers{ne: true}
)

// answered: what the comparisons say of two.
func answered(w int, a, b uint64) answers {
	return answers{eq: Eq(w, a, b), ne: Ne(w, a, b), lt: Lt(w, a, b), gt: Gt(w, a, b), le: Le(w, a, b), ge: Ge(w, a, b)}
}

// goAnswers: what Go's own floats say of two.
func goAnswers(w int, a, b uint64) answers {
	x, y := number(w, a), number(w, b)
	return answers{eq: x == y, ne: x != y, lt: x < y, gt: x > y, le: x <= y, ge: x >= y}
}

// checkCompared holds the comparisons against what is wanted.
func checkCompared(t *testing.T, w int, a, b uint64, want answers) {
	t.Helper()
	if got := answered(w, a, b); got != want {
		t.Fatalf("%d %x and %x: %+v, not %+v", w, a, b, got, want)
	}
}

// checkEnds holds Min and Max against what is wanted, whichever operand comes first.
func checkEnds(t *testing.T, w int, a, b, low, high uint64) {
	t.Helper()
	for _, c := range []struct {
		name            string
		a, b, got, want uint64
	}{
		{"Min", a, b, Min(w, a, b), low},
		{"Min", b, a, Min(w, b, a), low},
		{"Max", a, b, Max(w, a, b), high},
		{"Max", b, a, Max(w, b, a), high},
	} {
		if c.got != c.want {
			t.Fatalf("%d %s of %x and %x: %x, not %x", w, c.name, c.a, c.b, c.got, c.want)
		}
	}
}

// checkAgainstGo holds all that is answered of two against Go's own floats: its min and max take -0 as below 0, and whatever is no number as that.
func checkAgainstGo(t *testing.T, w int, a, b uint64) {
	t.Helper()
	checkCompared(t, w, a, b, goAnswers(w, a, b))
	checkCompared(t, w, b, a, goAnswers(w, b, a))
	x, y := number(w, a), number(w, b)
	checkEnds(t, w, a, b, bitsOf(w, min(x, y)), bitsOf(w, max(x, y)))
}

// checkRank holds a rank against what is wanted.
func checkRank(t *testing.T, w int, a uint64, want int64, ok bool) {
	t.Helper()
	if got, is := Rank(w, a); got != want || is != ok {
		t.Fatalf("%d rank of %x: %d %v, not %d %v", w, a, got, is, want, ok)
	}
}

// P8.1

func TestExamples(t *testing.T) {
	for _, w := range widths {
		if got := Min(w, 0, minus(w)); got != minus(w) {
			t.Errorf("%d Min of 0 and -0: %x", w, got)
		}
		if Lt(w, canonical(w), one(w)) {
			t.Errorf("%d no number is below 1", w)
		}
		if !Ne(w, canonical(w), canonical(w)) {
			t.Errorf("%d no number is itself", w)
		}
	}
}

func TestComparedByHand(t *testing.T) {
	for _, c := range []struct {
		w    int
		a, b uint64
		want answers
	}{
		{api.W32, 0x3f800000, 0x40000000, below},          // 1 and 2
		{api.W32, 0x40000000, 0x3f800000, above},          // 2 and 1
		{api.W32, 0x40400000, 0x40400000, same},           // 3 and 3
		{api.W32, 0xbf800000, 0x3f800000, below},          // -1 and 1
		{api.W32, 0xc0000000, 0x3f800000, below},          // -2 and 1
		{api.W32, 0x3f800000, 0xc0000000, above},          // 1 and -2
		{api.W32, 0xc0000000, 0xbf800000, below},          // -2 and -1
		{api.W32, 0xbf800000, 0xc0000000, above},          // -1 and -2
		{api.W32, 0xc0400000, 0xc0400000, same},           // -3 and -3
		{api.W32, 0x3f7fffff, 0x3f800000, below},          // neighbours at 1
		{api.W32, 0xbf7fffff, 0xbf800000, above},          // neighbours at -1
		{api.W32, 0, 1, below},                            // 0 and the least one
		{api.W32, 0x80000000, 1, below},                   // -0 and the least one
		{api.W32, 0x80000001, 0, below},                   // the least one with a sign
		{api.W32, 0x80000001, 0x80000000, below},          // the same, and -0
		{api.W32, 0x80000001, 1, below},                   // of unlike signs
		{api.W32, 0x007fffff, 0x00800000, below},          // the greatest subnormal one
		{api.W32, 0x807fffff, 0x80800000, above},          // the same, with signs
		{api.W32, 0x7f7fffff, 0x7f800000, below},          // the greatest finite one
		{api.W32, 0xff7fffff, 0xff800000, above},          // the same, with signs
		{api.W64, 0x3ff0000000000000, 1 << 62, below},     // 1 and 2
		{api.W64, 1 << 62, 0x3ff0000000000000, above},     // 2 and 1
		{api.W64, 0x4008000000000000, 0x4008 << 48, same}, // 3 and 3
		{api.W64, 0xbff0000000000000, 0x3ff0 << 48, below},
		{api.W64, 0xc000000000000000, 0x3ff0 << 48, below},
		{api.W64, 0x3ff0000000000000, 0xc000 << 48, above},
		{api.W64, 0xc000000000000000, 0xbff0 << 48, below},
		{api.W64, 0xbff0000000000000, 0xc000 << 48, above},
		{api.W64, 0xc008000000000000, 0xc008 << 48, same},
		{api.W64, 0x3fefffffffffffff, 0x3ff0 << 48, below},
		{api.W64, 0xbfefffffffffffff, 0xbff0 << 48, above},
		{api.W64, 0, 1, below},
		{api.W64, 1 << 63, 1, below},
		{api.W64, 1<<63 | 1, 0, below},
		{api.W64, 1<<63 | 1, 1 << 63, below},
		{api.W64, 1<<63 | 1, 1, below},
		{api.W64, 0x000fffffffffffff, 0x0010 << 48, below},
		{api.W64, 0x800fffffffffffff, 0x8010 << 48, above},
		{api.W64, 0x7fefffffffffffff, 0x7ff0 << 48, below},
		{api.W64, 0xffefffffffffffff, 0xfff0 << 48, above},
		// What differs in its lowest bits alone, and below the upper half.
		{api.W64, 0x3ff0000000000001, 0x3ff0000000000002, below},
		{api.W64, 0x3ff00000ffffffff, 0x3ff0000100000000, below},
		// No number of 32 bits, but one of 64.
		{api.W64, 0x7fc00000, 0x7fc00000, same},
		{api.W64, 0x7fc00000, 0x7fc00001, below},
	} {
		checkCompared(t, c.w, c.a, c.b, c.want)
	}
}

// TestNoughts: of like and of unlike signs they are the same number.
func TestNoughts(t *testing.T) {
	for _, w := range widths {
		for _, a := range []uint64{0, minus(w)} {
			for _, b := range []uint64{0, minus(w)} {
				checkCompared(t, w, a, b, same)
			}
			for _, x := range everywhere(w) {
				if x != 0 && x <= infinite(w) {
					checkCompared(t, w, a, x, below)
					checkCompared(t, w, a, minus(w)|x, above)
				}
			}
		}
	}
}

// TestNoNumber: on either side and on both, whatever its bits and its sign, only Ne is true; Min and Max are the canonical one; the rank is none.
func TestNoNumber(t *testing.T) {
	for _, w := range widths {
		all := noNumbers(w)
		for _, none := range all {
			checkRank(t, w, none, 0, false)
			for _, x := range append(numbers(w), all...) {
				checkCompared(t, w, none, x, neither)
				checkCompared(t, w, x, none, neither)
				checkEnds(t, w, none, x, canonical(w), canonical(w))
			}
		}
	}
}

// TestInfinite: each number but itself lies on one side of an infinite one.
func TestInfinite(t *testing.T) {
	for _, w := range widths {
		most, low := infinite(w), minus(w)|infinite(w)
		checkCompared(t, w, most, most, same)
		checkCompared(t, w, low, low, same)
		checkCompared(t, w, low, most, below)
		checkEnds(t, w, low, most, low, most)
		for _, x := range signed(w, everywhere(w)) {
			if isNumber(w, x) && x != most && x != low {
				checkCompared(t, w, x, most, below)
				checkCompared(t, w, x, low, above)
				checkEnds(t, w, x, most, x, most)
				checkEnds(t, w, x, low, low, x)
			}
		}
	}
}

// TestUnlikeSigns: what has a sign is below what has none, however far from nought it is.
func TestUnlikeSigns(t *testing.T) {
	for _, w := range widths {
		all := numbers(w)
		for _, a := range all {
			for _, b := range all {
				if a > minus(w) && b < minus(w) {
					checkCompared(t, w, a, b, below)
					checkCompared(t, w, b, a, above)
					checkEnds(t, w, a, b, a, b)
				}
			}
		}
	}
}

// TestItself: a number, at each exponent and of either sign.
func TestItself(t *testing.T) {
	for _, w := range widths {
		for _, x := range signed(w, everywhere(w)) {
			if isNumber(w, x) {
				checkCompared(t, w, x, x, same)
				checkEnds(t, w, x, x, x, x)
			}
		}
	}
}

// TestNeighbours: from one float to the next one, at each exponent's edges, up to the infinite one; with signs the other way about.
func TestNeighbours(t *testing.T) {
	for _, w := range widths {
		for _, x := range everywhere(w) {
			if x >= infinite(w) {
				continue
			}
			next := x + 1
			checkCompared(t, w, x, next, below)
			checkCompared(t, w, next, x, above)
			checkCompared(t, w, minus(w)|x, minus(w)|next, above)
			checkCompared(t, w, minus(w)|next, minus(w)|x, below)
			checkEnds(t, w, x, next, x, next)
			checkEnds(t, w, minus(w)|x, minus(w)|next, minus(w)|next, minus(w)|x)
		}
	}
}

// TestAgainstGo: numbers and such as are none, each with each; without a pattern; near to each other.
func TestAgainstGo(t *testing.T) {
	for _, w := range widths {
		some := append(numbers(w), noNumbers(w)...)
		for _, a := range some {
			for _, b := range some {
				checkAgainstGo(t, w, a, b)
			}
		}
		random := words(60000)
		for i, n := range random {
			a, b := n>>(64-w), random[(i+1)%len(random)]>>(64-w)
			checkAgainstGo(t, w, a, b)
			checkAgainstGo(t, w, a, a^1<<(i%w))
			checkAgainstGo(t, w, a, a^b&(1<<(i%w)-1))
		}
	}
}

// P8.2

func TestEndsByHand(t *testing.T) {
	for _, c := range []struct {
		w               int
		a, b, low, high uint64
	}{
		{api.W32, 0x3f800000, 0x40000000, 0x3f800000, 0x40000000}, // 1 and 2
		{api.W32, 0x3f800000, 0xbf800000, 0xbf800000, 0x3f800000}, // 1 and -1
		{api.W32, 0xbf800000, 0xc0000000, 0xc0000000, 0xbf800000}, // -1 and -2
		{api.W32, 0x40400000, 0x40400000, 0x40400000, 0x40400000}, // 3 and 3
		{api.W32, 0, 0, 0, 0},
		{api.W32, 0, 0x80000000, 0x80000000, 0},
		{api.W32, 0x80000000, 0x80000000, 0x80000000, 0x80000000},
		{api.W32, 0x80000000, 1, 0x80000000, 1},
		{api.W32, 0, 0x80000001, 0x80000001, 0},
		{api.W32, 0x7f800000, 0xff800000, 0xff800000, 0x7f800000},
		{api.W32, 0x7f800000, 0x7f7fffff, 0x7f7fffff, 0x7f800000},
		{api.W32, 0x7f800001, 0x3f800000, 0x7fc00000, 0x7fc00000},
		{api.W32, 0xffffffff, 0xff800000, 0x7fc00000, 0x7fc00000},
		{api.W32, 0xffc00000, 0xffc00000, 0x7fc00000, 0x7fc00000},
		{api.W64, 0x3ff0000000000000, 0x4000000000000000, 0x3ff0000000000000, 0x4000000000000000},
		{api.W64, 0x3ff0000000000000, 0xbff0000000000000, 0xbff0000000000000, 0x3ff0000000000000},
		{api.W64, 0xbff0000000000000, 0xc000000000000000, 0xc000000000000000, 0xbff0000000000000},
		{api.W64, 0x4008000000000000, 0x4008000000000000, 0x4008000000000000, 0x4008000000000000},
		{api.W64, 0, 0, 0, 0},
		{api.W64, 0, 1 << 63, 1 << 63, 0},
		{api.W64, 1 << 63, 1 << 63, 1 << 63, 1 << 63},
		{api.W64, 1 << 63, 1, 1 << 63, 1},
		{api.W64, 0, 1<<63 | 1, 1<<63 | 1, 0},
		{api.W64, 0x7ff0000000000000, 0xfff0000000000000, 0xfff0000000000000, 0x7ff0000000000000},
		{api.W64, 0x7ff0000000000000, 0x7fefffffffffffff, 0x7fefffffffffffff, 0x7ff0000000000000},
		{api.W64, 0x7ff0000000000001, 0x3ff0000000000000, 0x7ff8000000000000, 0x7ff8000000000000},
		{api.W64, math.MaxUint64, 0xfff0000000000000, 0x7ff8000000000000, 0x7ff8000000000000},
		{api.W64, 0xfff8000000000000, 0xfff8000000000000, 0x7ff8000000000000, 0x7ff8000000000000},
	} {
		checkEnds(t, c.w, c.a, c.b, c.low, c.high)
	}
}

// P8.3

func TestRankByHand(t *testing.T) {
	for _, c := range []struct {
		w    int
		a    uint64
		want int64
		ok   bool
	}{
		{api.W32, 0, 0, true},
		{api.W32, 0x80000000, 0, true},
		{api.W32, 1, 1, true},
		{api.W32, 0x80000005, -5, true},
		{api.W32, 0x00800000, 0x00800000, true},
		{api.W32, 0x3f800000, 1065353216, true},
		{api.W32, 0xbf800000, -1065353216, true},
		{api.W32, 0x7f7fffff, 0x7f7fffff, true},
		{api.W32, 0x7f800000, 0x7f800000, true},
		{api.W32, 0xff800000, -0x7f800000, true},
		{api.W32, 0x7f800001, 0, false},
		{api.W32, 0xff800001, 0, false},
		{api.W32, 0x7fc00000, 0, false},
		{api.W32, 0xffffffff, 0, false},
		{api.W64, 0, 0, true},
		{api.W64, 1 << 63, 0, true},
		{api.W64, 1, 1, true},
		{api.W64, 1<<63 | 5, -5, true},
		{api.W64, 0x80000005, 0x80000005, true},
		{api.W64, 0x0010000000000000, 1 << 52, true},
		{api.W64, 0x3ff0000000000000, 0x3ff0000000000000, true},
		{api.W64, 0xbff0000000000000, -0x3ff0000000000000, true},
		{api.W64, 0x7fefffffffffffff, 0x7fefffffffffffff, true},
		{api.W64, 0x7ff0000000000000, 0x7ff0000000000000, true},
		{api.W64, 0xfff0000000000000, -0x7ff0000000000000, true},
		{api.W64, 0x7ff0000000000001, 0, false},
		{api.W64, 0xfff0000000000001, 0, false},
		{api.W64, 0x7ff8000000000000, 0, false},
		{api.W64, math.MaxUint64, 0, false},
	} {
		checkRank(t, c.w, c.a, c.want, c.ok)
	}
}

// TestRanks: at each exponent, of either sign, the bits without the sign.
func TestRanks(t *testing.T) {
	for _, w := range widths {
		for _, x := range everywhere(w) {
			if x > infinite(w) {
				checkRank(t, w, x, 0, false)
				checkRank(t, w, minus(w)|x, 0, false)
				continue
			}
			checkRank(t, w, x, int64(x), true)
			checkRank(t, w, minus(w)|x, -int64(x), true)
		}
	}
}

// TestRanksOrder: floats in the order of their ranks are in that of the numbers that Go makes of them.
func TestRanksOrder(t *testing.T) {
	for _, w := range widths {
		ranks := map[uint64]int64{}
		var l []uint64
		for _, x := range signed(w, everywhere(w)) {
			if r, ok := Rank(w, x); ok {
				ranks[x] = r
				l = append(l, x)
			}
		}
		slices.SortFunc(l, func(a, b uint64) int { return cmp.Compare(ranks[a], ranks[b]) })
		for i, x := range l[1:] {
			last := l[i]
			if number(w, last) > number(w, x) || (number(w, last) == number(w, x)) != (ranks[last] == ranks[x]) {
				t.Fatalf("%d ranks of %x and %x: %d, %d", w, last, x, ranks[last], ranks[x])
			}
		}
		if first, last := number(w, l[0]), number(w, l[len(l)-1]); !math.IsInf(first, -1) || !math.IsInf(last, 1) {
			t.Errorf("%d: from %v to %v", w, first, last)
		}
	}
}

// P8.4

// TestJustOne: of two numbers, whichever they are.
func TestJustOne(t *testing.T) {
	for _, w := range widths {
		all := numbers(w)
		for _, a := range all {
			for _, b := range all {
				holding := 0
				for _, is := range []bool{Lt(w, a, b), Eq(w, a, b), Gt(w, a, b)} {
					if is {
						holding++
					}
				}
				if holding != 1 {
					t.Fatalf("%d %x and %x: %d of the three are true", w, a, b, holding)
				}
				if Lt(w, a, b) != Gt(w, b, a) || Le(w, a, b) == Gt(w, a, b) || Ge(w, a, b) == Lt(w, a, b) || Ne(w, a, b) == Eq(w, a, b) {
					t.Fatalf("%d %x and %x: %+v", w, a, b, answered(w, a, b))
				}
			}
		}
	}
}

// TestEndsAreBoth: Min and Max of two numbers are these two, and the operands changed about answer the same.
func TestEndsAreBoth(t *testing.T) {
	for _, w := range widths {
		all := numbers(w)
		for _, a := range all {
			for _, b := range all {
				low, high := Min(w, a, b), Max(w, a, b)
				if !(low == a && high == b || low == b && high == a) {
					t.Fatalf("%d ends of %x and %x: %x, %x", w, a, b, low, high)
				}
				if !Le(w, low, high) {
					t.Fatalf("%d %x and %x: Min %x is above Max %x", w, a, b, low, high)
				}
				checkEnds(t, w, a, b, low, high)
			}
		}
	}
}

// TestThree: of three numbers of which one is below the next the first is below the last.
func TestThree(t *testing.T) {
	for _, w := range widths {
		checkCompared(t, w, minus(w)|one(w), minus(w), below)
		checkCompared(t, w, minus(w), one(w), below)
		checkCompared(t, w, minus(w)|one(w), one(w), below)
		all := numbers(w)
		tried := 0
		for _, a := range all {
			for _, b := range all {
				if !Lt(w, a, b) {
					continue
				}
				for _, c := range all {
					if Lt(w, b, c) {
						tried++
						checkCompared(t, w, a, c, below)
						checkEnds(t, w, a, Max(w, b, c), a, c)
						checkEnds(t, w, Min(w, a, b), c, a, c)
					}
				}
			}
		}
		if tried < 10000 {
			t.Errorf("%d: only %d tried", w, tried)
		}
	}
}

// All of them

// TestBitsAbove: of 32 bits the upper half of what is handed in doesn't count, not even for a sign or for no number, and isn't handed out.
func TestBitsAbove(t *testing.T) {
	w := api.W32
	uppers := []uint64{0, 1 << 32, 1 << 63, 0x7ff00000 << 32, 0x7ff80001 << 32, 0xffffffff << 32}
	some := append(numbers(w), noNumbers(w)...)
	for _, a := range some {
		rank, ok := Rank(w, a)
		for _, upper := range uppers {
			checkRank(t, w, upper|a, rank, ok)
		}
		for i, b := range some {
			// Each upper half is laid on one side, on the other side, and others on both.
			upper, other := uppers[i%len(uppers)], uppers[(i+2)%len(uppers)]
			want, low, high := goAnswers(w, a, b), bitsOf(w, min(number(w, a), number(w, b))), bitsOf(w, max(number(w, a), number(w, b)))
			for _, c := range [][2]uint64{{upper | a, b}, {a, upper | b}, {upper | a, other | b}, {upper | a, upper | b}} {
				checkCompared(t, w, c[0], c[1], want)
				checkEnds(t, w, c[0], c[1], low, high)
			}
		}
	}
}

// TestNoWidth: nothing is true, Ne neither, and all else is 0.
func TestNoWidth(t *testing.T) {
	some := []uint64{0, 1, 2, 4, 1 << 31, 1 << 63, 0x3f800000, 0x7f800000, 0x7f800001, 0xff800000, 0x3ff0000000000000, 0x7ff0000000000000, 0xfff0000000000000, 0x7ff8000000000001, math.MaxUint64}
	for _, w := range notWidths {
		for _, a := range some {
			checkRank(t, w, a, 0, false)
			for _, b := range some {
				checkCompared(t, w, a, b, answers{})
				checkEnds(t, w, a, b, 0, 0)
			}
		}
	}
}
