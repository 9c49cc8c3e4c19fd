package sign

import (
	"math"
	"strconv"
	"strings"
	"testing"

	"trunnion/api"
)

var widths = []int{api.W32, api.W64}

// notWidths: numbers that are no width, those near to one and those far away.
var notWidths = []int{0, 1, -1, 2, 5, 7, 8, 9, 16, 23, 31, 33, 52, 63, 65, 96, 128, -32, -64, 32 + 1<<32, 64 + 1<<32, math.MaxInt, math.MinInt}

// layout: the sizes of a width's fields.
func layout(w int) (e, f int) {
	if w == api.W32 {
		return 8, 23
	}
	return 11, 52
}

// minus: the sign of a float of that width.
func minus(w int) uint64 { return 1 << (w - 1) }

// infinite: the infinite one without a sign.
func infinite(w int) uint64 {
	e, f := layout(w)
	return (1<<e - 1) << f
}

// canonical: the canonical NaN.
func canonical(w int) uint64 {
	_, f := layout(w)
	return infinite(w) | 1<<(f-1)
}

// isNumber: whether these bits of a float are not those of no number.
func isNumber(w int, x uint64) bool { return x&^minus(w) <= infinite(w) }

// words: numbers of 64 bits without a pattern, the same at each run.
func words(n int) []uint64 {
	l := make([]uint64, n)
	x := uint64(0x9e3779b97f4a7c15)
	for i := range l {
		x ^= x << 13
		x ^= x >> 7
		x ^= x << 17
		l[i] = x
	}
	return l
}

// number: the float that Go makes of the bits. Each float of 32 bits is one of 64.
func number(w int, x uint64) float64 {
	if w == api.W32 {
		return float64(math.Float32frombits(uint32(x)))
	}
	return math.Float64frombits(x)
}

// bitsOf: the bits of a float of 64 bits that is one of that width too.
func bitsOf(w int, x float64) uint64 {
	if w == api.W32 {
		return uint64(math.Float32bits(float32(x)))
	}
	return math.Float64bits(x)
}

// signed: the floats, and beside each of them the one of the other sign.
func signed(w int, l []uint64) []uint64 {
	var both []uint64
	for _, x := range l {
		both = append(both, x, x^minus(w))
	}
	return both
}

// fractions: the edges of a fraction's field, each of its bits alone, each row of ones that begins or ends with it, and some numbers between.
func fractions(w int) []uint64 {
	_, f := layout(w)
	all := uint64(1)<<f - 1
	l := []uint64{0, 3, 5, all - 1, all}
	for i := range f {
		bit := uint64(1) << i
		l = append(l, bit, bit-1, all&^(bit-1), all&^bit)
	}
	for _, n := range words(8) {
		l = append(l, n&all)
	}
	return l
}

// noughts: nought, of either sign.
func noughts(w int) []uint64 { return []uint64{0, minus(w)} }

// infinites: the infinite one, of either sign.
func infinites(w int) []uint64 { return []uint64{infinite(w), minus(w) | infinite(w)} }

// subnormals: numbers whose exponent's field is 0, of either sign.
func subnormals(w int) []uint64 {
	var l []uint64
	for _, frac := range fractions(w) {
		if frac != 0 {
			l = append(l, frac)
		}
	}
	return signed(w, l)
}

// noNumbers: what is no number, of either sign, with many fractions: the canonical one's among them, and such whose highest bit is 0.
func noNumbers(w int) []uint64 {
	l := []uint64{canonical(w), canonical(w) + 1, canonical(w) - 1}
	for _, frac := range fractions(w) {
		if frac != 0 {
			l = append(l, infinite(w)|frac)
		}
	}
	return signed(w, l)
}

// everywhere: floats of each exponent's field and either sign.
func everywhere(w int) []uint64 {
	e, f := layout(w)
	all := uint64(1)<<f - 1
	var l []uint64
	for exp := range uint64(1) << e {
		for _, frac := range []uint64{0, 1, all >> 1, all>>1 + 1, all - 1, all} {
			l = append(l, exp<<f|frac)
		}
	}
	return signed(w, l)
}

// some: a few floats of each kind and either sign, so few that each can be held against each.
func some(w int) []uint64 {
	_, f := layout(w)
	one := bitsOf(w, 1)
	l := []uint64{
		0, 1, 2, 1 << (f - 1), 1<<f - 1, 1 << f, // noughts, subnormal ones, and the least one that isn't
		one - 1, one, one + 1, bitsOf(w, 2.5), bitsOf(w, 3), bitsOf(w, 1<<20),
		infinite(w) - 1, infinite(w), infinite(w) | 1, canonical(w) - 1, canonical(w), canonical(w) | 1, minus(w) - 1,
	}
	for _, n := range words(12) {
		l = append(l, n>>(64-w)&^minus(w))
	}
	return signed(w, l)
}

// digits: the lowest bits as digits, the sign's first.
func digits(w int, x uint64) string {
	text := strings.Repeat("0", 64) + strconv.FormatUint(x, 2)
	return text[len(text)-w:]
}

// ofDigits: the float of digits.
func ofDigits(t *testing.T, text string) uint64 {
	t.Helper()
	x, err := strconv.ParseUint(text, 2, 64)
	if err != nil {
		t.Fatal(err)
	}
	return x
}

// answers are what is made of a float.
type answers struct {
	is       bool
	abs, neg uint64
}

// byDigits: what the promise's words make of a float, digit by digit.
func byDigits(t *testing.T, w int, a uint64) answers {
	t.Helper()
	text := digits(w, a)
	if text[0] == '1' {
		return answers{true, ofDigits(t, "0"+text[1:]), ofDigits(t, "0"+text[1:])}
	}
	return answers{false, ofDigits(t, text), ofDigits(t, "1"+text[1:])}
}

// copiedByDigits: the first digit of the one, the others of the other one.
func copiedByDigits(t *testing.T, w int, a, b uint64) uint64 {
	t.Helper()
	return ofDigits(t, digits(w, b)[:1]+digits(w, a)[1:])
}

// check holds what the functions make of a float against what is wanted.
func check(t *testing.T, w int, a uint64, want answers) {
	t.Helper()
	if got := (answers{Is(w, a), Abs(w, a), Neg(w, a)}); got != want {
		t.Fatalf("%d %x: %#v, not %#v", w, a, got, want)
	}
}

// checkCopied holds Copysign against what is wanted.
func checkCopied(t *testing.T, w int, a, b, want uint64) {
	t.Helper()
	if got := Copysign(w, a, b); got != want {
		t.Fatalf("%d Copysign of %x and %x: %x, not %x", w, a, b, got, want)
	}
}

// checkBoth holds it all for a float without a sign, and for the one that has it: alone, and with each sign copied to each.
func checkBoth(t *testing.T, w int, x uint64) {
	t.Helper()
	with := x + minus(w)
	check(t, w, x, answers{false, x, with})
	check(t, w, with, answers{true, x, x})
	for _, a := range []uint64{x, with} {
		checkCopied(t, w, a, x, x)
		checkCopied(t, w, a, with, with)
	}
}

// P10.1, by hand

func TestExample(t *testing.T) {
	if got := Neg(api.W32, 2143289344); got != 4290772992 {
		t.Errorf("Neg of the canonical NaN of 32 bits: %d", got)
	}
}

func TestByHand(t *testing.T) {
	for _, c := range []struct {
		w        int
		a        uint64
		is       bool
		abs, neg uint64
	}{
		{api.W32, 0x3f800000, false, 0x3f800000, 0xbf800000}, // 1
		{api.W32, 0xbf800000, true, 0x3f800000, 0x3f800000},  // -1
		{api.W32, 0x40490fdb, false, 0x40490fdb, 0xc0490fdb}, // about 3.14
		{api.W32, 0, false, 0, 0x80000000},                   // noughts
		{api.W32, 0x80000000, true, 0, 0},
		{api.W32, 1, false, 1, 0x80000001}, // subnormal ones
		{api.W32, 0x807fffff, true, 0x7fffff, 0x7fffff},
		{api.W32, 0x7f7fffff, false, 0x7f7fffff, 0xff7fffff}, // the greatest finite one
		{api.W32, 0x7f800000, false, 0x7f800000, 0xff800000}, // infinite ones
		{api.W32, 0xff800000, true, 0x7f800000, 0x7f800000},
		{api.W32, 0x7fc00000, false, 0x7fc00000, 0xffc00000}, // the canonical NaN, and others
		{api.W32, 0xffc00000, true, 0x7fc00000, 0x7fc00000},
		{api.W32, 0x7f800001, false, 0x7f800001, 0xff800001},
		{api.W32, 0xffffffff, true, 0x7fffffff, 0x7fffffff},
		{api.W32, 0x40000000, false, 0x40000000, 0xc0000000}, // 2, whose bit is the one beside the sign
		{api.W32, 0x8000000000000000, false, 0, 0x80000000},  // a sign of 64 bits
		{api.W32, 0xbff0000080000001, true, 1, 1},            // and the one of 32 besides
		{api.W64, 0x3ff0000000000000, false, 0x3ff0000000000000, 0xbff0000000000000},
		{api.W64, 0xbff0000000000000, true, 0x3ff0000000000000, 0x3ff0000000000000},
		{api.W64, 0x400921fb54442d18, false, 0x400921fb54442d18, 0xc00921fb54442d18},
		{api.W64, 0, false, 0, 0x8000000000000000},
		{api.W64, 0x8000000000000000, true, 0, 0},
		{api.W64, 1, false, 1, 0x8000000000000001},
		{api.W64, 0x800fffffffffffff, true, 0xfffffffffffff, 0xfffffffffffff},
		{api.W64, 0x7fefffffffffffff, false, 0x7fefffffffffffff, 0xffefffffffffffff},
		{api.W64, 0x7ff0000000000000, false, 0x7ff0000000000000, 0xfff0000000000000},
		{api.W64, 0xfff0000000000000, true, 0x7ff0000000000000, 0x7ff0000000000000},
		{api.W64, 0x7ff8000000000000, false, 0x7ff8000000000000, 0xfff8000000000000},
		{api.W64, 0xfff8000000000000, true, 0x7ff8000000000000, 0x7ff8000000000000},
		{api.W64, 0x7ff0000000000001, false, 0x7ff0000000000001, 0xfff0000000000001},
		{api.W64, 0xffffffffffffffff, true, 0x7fffffffffffffff, 0x7fffffffffffffff},
		{api.W64, 0x80000000, false, 0x80000000, 0x8000000080000000}, // a sign of 32 bits
		{api.W64, 0xffc00000, false, 0xffc00000, 0x80000000ffc00000}, // no number of 32 bits
	} {
		check(t, c.w, c.a, answers{c.is, c.abs, c.neg})
	}
}

func TestCopysignByHand(t *testing.T) {
	for _, c := range []struct {
		w          int
		a, b, want uint64
	}{
		{api.W32, 0x3f800000, 0x40000000, 0x3f800000}, // 1 and 2
		{api.W32, 0x3f800000, 0xc0000000, 0xbf800000}, // 1 and -2
		{api.W32, 0xbf800000, 0x40000000, 0x3f800000}, // -1 and 2
		{api.W32, 0xbf800000, 0xc0000000, 0xbf800000}, // -1 and -2
		{api.W32, 0, 0x80000000, 0x80000000},
		{api.W32, 0x80000000, 0, 0},
		{api.W32, 5, 0xffc00000, 0x80000005},
		{api.W32, 0x80000005, 0x7fffffff, 5},
		{api.W32, 0x7f800001, 0xff800000, 0xff800001},
		{api.W32, 0xffc00001, 0, 0x7fc00001},
		{api.W32, 0x7f800000, 0x80000001, 0xff800000},
		{api.W32, 0x3f800000, 0x8000000000000000, 0x3f800000}, // a sign of 64 bits in either one
		{api.W32, 0x8000000000000005, 0x80000000, 0x80000005},
		{api.W64, 0x3ff0000000000000, 0x4000000000000000, 0x3ff0000000000000},
		{api.W64, 0x3ff0000000000000, 0xc000000000000000, 0xbff0000000000000},
		{api.W64, 0xbff0000000000000, 0x4000000000000000, 0x3ff0000000000000},
		{api.W64, 0xbff0000000000000, 0xc000000000000000, 0xbff0000000000000},
		{api.W64, 0, 0x8000000000000000, 0x8000000000000000},
		{api.W64, 0x8000000000000000, 0, 0},
		{api.W64, 5, 0xfff8000000000000, 0x8000000000000005},
		{api.W64, 0x8000000000000005, 0x7fffffffffffffff, 5},
		{api.W64, 0x7ff0000000000001, 0xfff0000000000000, 0xfff0000000000001},
		{api.W64, 0xfff8000000000001, 0, 0x7ff8000000000001},
		{api.W64, 0x7ff0000000000000, 0x8000000000000001, 0xfff0000000000000},
		{api.W64, 0x3ff0000000000000, 0x80000000, 0x3ff0000000000000}, // a sign of 32 bits in either one
		{api.W64, 0x80000005, 0x8000000000000000, 0x8000000080000005},
	} {
		checkCopied(t, c.w, c.a, c.b, c.want)
	}
}

// P10.1

// TestNoNumber: of either sign it keeps its bits, whatever they are, and isn't made the canonical one; its own sign is handed on as any other's.
func TestNoNumber(t *testing.T) {
	for _, w := range widths {
		for _, none := range noNumbers(w) {
			if isNumber(w, none) {
				t.Fatalf("%d %x is a number", w, none)
			}
			checkBoth(t, w, none&^minus(w))
			for _, x := range some(w) {
				checkCopied(t, w, none, x, copiedByDigits(t, w, none, x))
				checkCopied(t, w, x, none, copiedByDigits(t, w, x, none))
			}
		}
	}
}

func TestInfinite(t *testing.T) {
	for _, w := range widths {
		checkBoth(t, w, infinite(w))
		for _, a := range infinites(w) {
			for _, x := range some(w) {
				checkCopied(t, w, a, x, copiedByDigits(t, w, a, x))
				checkCopied(t, w, x, a, copiedByDigits(t, w, x, a))
			}
		}
	}
}

// TestNoughts: they have a sign as all others do.
func TestNoughts(t *testing.T) {
	for _, w := range widths {
		checkBoth(t, w, 0)
		for _, a := range noughts(w) {
			for _, x := range some(w) {
				checkCopied(t, w, a, x, copiedByDigits(t, w, a, x))
				checkCopied(t, w, x, a, copiedByDigits(t, w, x, a))
			}
		}
	}
}

func TestSubnormal(t *testing.T) {
	for _, w := range widths {
		for _, x := range subnormals(w) {
			checkBoth(t, w, x&^minus(w))
		}
	}
}

// TestEachBit: each bit alone, and all but that one: the highest one alone is a sign.
func TestEachBit(t *testing.T) {
	for _, w := range widths {
		all := minus(w) - 1
		for i := range w - 1 {
			bit := uint64(1) << i
			checkBoth(t, w, bit)
			checkBoth(t, w, all&^bit)
			if Is(w, bit) || !Is(w, minus(w)|all&^bit) {
				t.Fatalf("%d bit %d", w, i)
			}
		}
		checkBoth(t, w, all)
		check(t, w, minus(w), answers{true, 0, 0})
	}
}

// TestEachExponent: of either sign.
func TestEachExponent(t *testing.T) {
	for _, w := range widths {
		for _, x := range everywhere(w) {
			checkBoth(t, w, x&^minus(w))
		}
	}
}

// TestByDigits: floats without a pattern, and each of some with each.
func TestByDigits(t *testing.T) {
	for _, w := range widths {
		random := words(20000)
		for i, n := range random {
			a, b := n>>(64-w), random[(i+1)%len(random)]>>(64-w)
			check(t, w, a, byDigits(t, w, a))
			checkCopied(t, w, a, b, copiedByDigits(t, w, a, b))
		}
		for _, a := range some(w) {
			check(t, w, a, byDigits(t, w, a))
			for _, b := range some(w) {
				checkCopied(t, w, a, b, copiedByDigits(t, w, a, b))
			}
		}
	}
}

// TestAgainstGo: numbers, as Go's own floats are. (What is no number doesn't keep its bits where Go makes it one of the other width.)
func TestAgainstGo(t *testing.T) {
	for _, w := range widths {
		var l []uint64
		for _, x := range append(everywhere(w), some(w)...) {
			if isNumber(w, x) {
				l = append(l, x)
			}
		}
		for i, a := range l {
			x := number(w, a)
			check(t, w, a, answers{math.Signbit(x), bitsOf(w, math.Abs(x)), bitsOf(w, -x)})
			for step := range 7 {
				b := l[(i*step+step*step)%len(l)]
				checkCopied(t, w, a, b, bitsOf(w, math.Copysign(x, number(w, b))))
			}
		}
	}
}

// TestSameOperand: its own sign changes nothing; nor does that of any other one of the same sign; one of the other sign is Neg.
func TestSameOperand(t *testing.T) {
	for _, w := range widths {
		for _, a := range some(w) {
			checkCopied(t, w, a, a, a)
			checkCopied(t, w, a, a^minus(w), a^minus(w))
			for _, b := range some(w) {
				want := a
				if (a^b)&minus(w) != 0 {
					want = Neg(w, a)
				}
				checkCopied(t, w, a, b, want)
			}
		}
	}
}

// P10.2

// TestNegTwice: it is what it was, and once it isn't.
func TestNegTwice(t *testing.T) {
	for _, w := range widths {
		l := append(everywhere(w), some(w)...)
		l = append(l, noNumbers(w)...)
		l = append(l, subnormals(w)...)
		for _, a := range l {
			once := Neg(w, a)
			if twice := Neg(w, once); twice != a || once == a || Is(w, once) == Is(w, a) {
				t.Fatalf("%d %x: Neg %x, twice %x", w, a, once, twice)
			}
		}
	}
}

// TestNoOtherBit: what is made differs from what it was at the sign alone, and a bit that is changed in an operand, but for the sign, is that bit in the answer, or none.
func TestNoOtherBit(t *testing.T) {
	for _, w := range widths {
		for i, a := range append(some(w), noNumbers(w)...) {
			b := some(w)[i%len(some(w))]
			abs, neg, copied := Abs(w, a), Neg(w, a), Copysign(w, a, b)
			if ((abs^a)|(neg^a)|(copied^a))&^minus(w) != 0 {
				t.Fatalf("%d %x and %x: %x, %x, %x", w, a, b, abs, neg, copied)
			}
			for n := range w - 1 {
				bit := uint64(1) << n
				check(t, w, a^bit, answers{Is(w, a), abs ^ bit, neg ^ bit})
				checkCopied(t, w, a^bit, b, copied^bit)
				checkCopied(t, w, a, b^bit, copied)
			}
			checkCopied(t, w, a^minus(w), b, copied)
			checkCopied(t, w, a, b^minus(w), copied^minus(w))
		}
	}
}

// All of them

// TestBitsAbove: of 32 bits the upper half of what is handed in doesn't count, not even for a sign, and isn't handed out.
func TestBitsAbove(t *testing.T) {
	w := api.W32
	uppers := []uint64{0x7ff00000 << 32, 0x7ff80001 << 32, 0xbff00000 << 32, 0xffffffff << 32}
	for i := w; i < 64; i++ {
		uppers = append(uppers, 1<<i)
	}
	for _, a := range append(some(w), noNumbers(w)...) {
		for _, upper := range uppers {
			check(t, w, upper|a, byDigits(t, w, a))
		}
	}
	for _, a := range some(w) {
		for _, b := range some(w) {
			want := copiedByDigits(t, w, a, b)
			for i, upper := range uppers {
				other := uppers[(i+3)%len(uppers)]
				for _, c := range [][2]uint64{{upper | a, b}, {a, upper | b}, {upper | a, other | b}, {upper | a, upper | b}} {
					checkCopied(t, w, c[0], c[1], want)
				}
			}
		}
	}
}

// TestNoBitsAbove: of 64 bits the upper half is as good as the lower one.
func TestNoBitsAbove(t *testing.T) {
	for _, n := range words(500) {
		for _, x := range []uint64{n &^ minus(api.W64), n >> 1, n << 32 >> 1, n &^ minus(api.W64) >> 32 << 32} {
			checkBoth(t, api.W64, x)
		}
	}
}

// TestNoWidth: 0 of everything, and nothing has a sign.
func TestNoWidth(t *testing.T) {
	l := []uint64{0, 1, 2, 4, 16, 1 << 7, 1 << 15, 1 << 30, 1 << 31, 1 << 32, 1 << 62, 1 << 63, 0x3f800000, 0xbf800000, 0x7f800001, 0xff800000, 0xbff0000000000000, 0xfff0000000000000, 0x7ff8000000000001, math.MaxUint32, math.MaxInt64, math.MaxUint64}
	for _, w := range notWidths {
		for _, a := range l {
			check(t, w, a, answers{})
			for _, b := range l {
				checkCopied(t, w, a, b, 0)
			}
		}
	}
}
