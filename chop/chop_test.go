package chop

import (
	"errors"
	"math"
	"math/big"
	"strconv"
	"strings"
	"testing"

	"trunnion/api"
	"trunnion/cast"
)

var (
	widths = []int{api.W32, api.W64}
	signs  = []bool{false, true}
)

// notWidths: numbers that are no width, those near to one and those far away.
var notWidths = []int{0, 1, -1, 7, 8, 9, 16, 23, 31, 33, 52, 63, 65, 96, 128, -32, -64, 32 + 1<<32, 64 + 1<<32, math.MaxInt, math.MinInt}

// layout: the sizes of a width's fields, written out once more.
func layout(w int) (e, f int) {
	if w == api.W32 {
		return 8, 23
	}
	return 11, 52
}

// minus: the sign of a float of that width.
func minus(w int) uint64 { return 1 << (w - 1) }

// infinite: the infinite one without a sign.
func infinite(w int) uint64 {
	e, f := layout(w)
	return (1<<e - 1) << f
}

// power: the float 2^n.
func power(w, n int) uint64 {
	e, f := layout(w)
	return uint64(1<<(e-1)-1+n) << f
}

// words: numbers of 64 bits without a pattern, the same at each run.
func words(n int) []uint64 {
	l := make([]uint64, n)
	x := uint64(0x9e3779b97f4a7c15)
	for i := range l {
		x ^= x << 13
		x ^= x >> 7
		x ^= x << 17
		l[i] = x
	}
	return l
}

// float: the float that Go makes of the bits. Each float of 32 bits is one of 64.
func float(w int, a uint64) float64 {
	if w == api.W32 {
		return float64(math.Float32frombits(uint32(a)))
	}
	return math.Float64frombits(a)
}

// bitsOf: the bits of Go's float, which is one of that width.
func bitsOf(w int, x float64) uint64 {
	if w == api.W32 {
		return uint64(math.Float32bits(float32(x)))
	}
	return math.Float64bits(x)
}

// both: the floats, and beside each of them the one of the other sign.
func both(w int, l []uint64) []uint64 {
	var b []uint64
	for _, a := range l {
		b = append(b, a, a^minus(w))
	}
	return b
}

// fractions: the edges of a fraction's field, each of its bits alone, each row of ones that begins or ends with it, and some numbers between.
func fractions(w int) []uint64 {
	_, f := layout(w)
	full := uint64(1)<<f - 1
	l := []uint64{0, 3, 5, full - 1, full - 2}
	for i := range f {
		bit := uint64(1) << i
		l = append(l, bit, bit|1, bit-1, full&^(bit-1), full&^bit)
	}
	for _, n := range words(8) {
		l = append(l, n&full)
	}
	return l
}

// numbers: floats of either sign that are no NaN: nought, subnormal ones, all powers from far below one to far above 2^64 with many fractions, the others with few, and the infinite ones.
func numbers(w int) []uint64 {
	e, f := layout(w)
	full := uint64(1)<<f - 1
	l := []uint64{infinite(w)}
	for exp := range uint64(1<<e - 1) {
		fracs := []uint64{0, 1, full / 3, 1 << (f - 1), full}
		if exp == 0 || exp<<f >= power(w, -4) && exp<<f <= power(w, 70) {
			fracs = fractions(w)
		}
		for _, frac := range fracs {
			l = append(l, exp<<f|frac)
		}
	}
	return both(w, l)
}

// noNumbers: what is no number, of either sign and many fractions.
func noNumbers(w int) []uint64 {
	var l []uint64
	for _, frac := range fractions(w) {
		if frac != 0 {
			l = append(l, infinite(w)|frac)
		}
	}
	return both(w, l)
}

// ends: the least and the greatest number of to bits, and 2^to, by whole numbers without an end.
func ends(to int, signed bool) (low, high, round *big.Int) {
	one := big.NewInt(1)
	round = new(big.Int).Lsh(one, uint(to))
	low, high = new(big.Int), new(big.Int).Sub(round, one)
	if signed {
		half := new(big.Int).Lsh(one, uint(to-1))
		low.Sub(low, half)
		high.Sub(high, half)
	}
	return low, high, round
}

// exactly: what is wanted of a float that is no NaN, by numbers without an end.
func exactly(w, to int, a uint64, signed bool) (n uint64, trap api.Trap, sat uint64) {
	low, high, round := ends(to, signed)
	in := func(x *big.Int) uint64 { return new(big.Int).Mod(x, round).Uint64() }
	x := new(big.Float).SetFloat64(float(w, a))
	if x.IsInf() {
		if x.Signbit() {
			return 0, api.TrapOverflow, in(low)
		}
		return 0, api.TrapOverflow, in(high)
	}
	switch whole, _ := x.Int(nil); {
	case whole.Cmp(low) < 0:
		return 0, api.TrapOverflow, in(low)
	case whole.Cmp(high) > 0:
		return 0, api.TrapOverflow, in(high)
	default:
		return in(whole), api.NoTrap, in(whole)
	}
}

// check holds what is chopped of a float against what is wanted.
func check(t *testing.T, w, to int, a uint64, signed bool, n uint64, trap api.Trap, sat uint64) {
	t.Helper()
	if got, why := Trap(w, to, a, signed); got != n || why != trap {
		t.Fatalf("%x of %d to %d, signed %t: %x and trap %d, not %x and %d", a, w, to, signed, got, why, n, trap)
	}
	if got := Sat(w, to, a, signed); got != sat {
		t.Fatalf("%x of %d to %d, signed %t: Sat %x, not %x", a, w, to, signed, got, sat)
	}
}

// checkExactly holds it against numbers without an end.
func checkExactly(t *testing.T, w, to int, a uint64, signed bool) {
	t.Helper()
	n, trap, sat := exactly(w, to, a, signed)
	check(t, w, to, a, signed, n, trap, sat)
}

// The chapter's examples

func TestExamples(t *testing.T) {
	for _, to := range widths {
		for _, signed := range signs {
			check(t, api.W64, to, math.Float64bits(-0.9), signed, 0, api.NoTrap, 0)
		}
	}
	if got := Sat(api.W64, api.W32, math.Float64bits(-5), false); got != 0 {
		t.Errorf("-5: %d", got)
	}
	if got := Sat(api.W32, api.W32, bitsOf(api.W32, -5), false); got != 0 {
		t.Errorf("-5 of 32 bits: %d", got)
	}
}

// TestExampleOfTheWhole: the tenth one of DOC.md.
func TestExampleOfTheWhole(t *testing.T) {
	check(t, api.W64, api.W32, math.Float64bits(2147483648), true, 0, api.TrapOverflow, 2147483647)
}

// P12.1 and P12.2, by hand

// TestOrdinary: numbers that both widths have, chopped to both; each once more with the other sign.
func TestOrdinary(t *testing.T) {
	for _, c := range []struct {
		x float64
		n int64
	}{
		{0, 0},
		{1, 1},
		{2, 2},
		{7, 7},
		{123, 123},
		{0.25, 0},
		{0.5, 0},
		{0.75, 0},
		{0.9375, 0},
		{1.25, 1},
		{1.5, 1},
		{1.75, 1},
		{2.5, 2},
		{3.5, 3},
		{3.96875, 3},
		{99.75, 99},
		{1000000.5, 1000000},
		{4194303.75, 4194303},
		{8388607.5, 8388607},
		{8388608, 8388608},
		{16777215, 16777215},
		{16777216, 16777216},
		{16777218, 16777218},
		{1073741824, 1073741824},
		{2147483520, 2147483520},
	} {
		for _, w := range widths {
			for _, to := range widths {
				a := bitsOf(w, c.x)
				plus, less := uint64(c.n), uint64(-c.n)
				if to == api.W32 {
					less = uint64(uint32(less))
				}
				check(t, w, to, a, true, plus, api.NoTrap, plus)
				check(t, w, to, a, false, plus, api.NoTrap, plus)
				check(t, w, to, a|minus(w), true, less, api.NoTrap, less)
				if c.n == 0 {
					check(t, w, to, a|minus(w), false, 0, api.NoTrap, 0)
				} else {
					check(t, w, to, a|minus(w), false, 0, api.TrapOverflow, 0)
				}
			}
		}
	}
}

// TestGreat: numbers beyond 32 bits, those between two whole ones among them.
func TestGreat(t *testing.T) {
	for _, c := range []struct {
		x float64
		n int64
	}{
		{4294967296, 4294967296},
		{4294967296.5, 4294967296},
		{4294967297.75, 4294967297},
		{1099511627776.25, 1099511627776},
		{4503599627370495.5, 4503599627370495},
		{9007199254740991, 9007199254740991},
		{9007199254740992, 9007199254740992},
		{9007199254740994, 9007199254740994},
		{1152921504606846976, 1152921504606846976},
	} {
		a := math.Float64bits(c.x)
		plus, less := uint64(c.n), uint64(-c.n)
		check(t, api.W64, api.W64, a, true, plus, api.NoTrap, plus)
		check(t, api.W64, api.W64, a, false, plus, api.NoTrap, plus)
		check(t, api.W64, api.W64, a|1<<63, true, less, api.NoTrap, less)
		check(t, api.W64, api.W64, a|1<<63, false, 0, api.TrapOverflow, 0)
		check(t, api.W64, api.W32, a, true, 0, api.TrapOverflow, math.MaxInt32)
		check(t, api.W64, api.W32, a, false, 0, api.TrapOverflow, math.MaxUint32)
		check(t, api.W64, api.W32, a|1<<63, true, 0, api.TrapOverflow, 1<<31)
		check(t, api.W64, api.W32, a|1<<63, false, 0, api.TrapOverflow, 0)
	}
}

// TestBesideTheEnds: of each width, to and signedness the last float that is chopped to a number of to bits, and the first one that isn't, on both sides.
func TestBesideTheEnds(t *testing.T) {
	for _, c := range []struct {
		w, to   int
		signed  bool
		last, n uint64 // toward the greatest
		high    uint64
		least   uint64 // toward the least
		m, low  uint64
	}{
		{api.W32, api.W32, true, 0x4effffff, 0x7fffff80, 0x7fffffff, 0xcf000000, 0x80000000, 0x80000000},
		{api.W32, api.W32, false, 0x4f7fffff, 0xffffff00, 0xffffffff, 0xbf7fffff, 0, 0},
		{api.W32, api.W64, true, 0x5effffff, 0x7fffff8000000000, 1<<63 - 1, 0xdf000000, 1 << 63, 1 << 63},
		{api.W32, api.W64, false, 0x5f7fffff, 0xffffff0000000000, math.MaxUint64, 0xbf7fffff, 0, 0},
		{api.W64, api.W32, true, 0x41dfffffffffffff, 0x7fffffff, 0x7fffffff, 0xc1e00000001fffff, 0x80000000, 0x80000000},
		{api.W64, api.W32, false, 0x41efffffffffffff, 0xffffffff, 0xffffffff, 0xbfefffffffffffff, 0, 0},
		{api.W64, api.W64, true, 0x43dfffffffffffff, 0x7ffffffffffffc00, 1<<63 - 1, 0xc3e0000000000000, 1 << 63, 1 << 63},
		{api.W64, api.W64, false, 0x43efffffffffffff, 0xfffffffffffff800, math.MaxUint64, 0xbfefffffffffffff, 0, 0},
	} {
		check(t, c.w, c.to, c.last, c.signed, c.n, api.NoTrap, c.n)
		check(t, c.w, c.to, c.last+1, c.signed, 0, api.TrapOverflow, c.high)
		check(t, c.w, c.to, c.last+2, c.signed, 0, api.TrapOverflow, c.high)
		check(t, c.w, c.to, c.least, c.signed, c.m, api.NoTrap, c.m)
		check(t, c.w, c.to, c.least+1, c.signed, 0, api.TrapOverflow, c.low)
		check(t, c.w, c.to, c.least+2, c.signed, 0, api.TrapOverflow, c.low)
		for d := range uint64(1000) {
			for _, a := range []uint64{c.last - d, c.last + d, c.least - d, c.least + d} {
				checkExactly(t, c.w, c.to, a, c.signed)
			}
		}
	}
}

// TestEndsThemselves: of 64 bits both ends of 32 are floats, and what lies beside them by one and by a half.
func TestEndsThemselves(t *testing.T) {
	for _, c := range []struct {
		x      float64
		signed bool
		n      uint64
		trap   api.Trap
		sat    uint64
	}{
		{2147483646.5, true, 0x7ffffffe, api.NoTrap, 0x7ffffffe},
		{2147483647, true, 0x7fffffff, api.NoTrap, 0x7fffffff},
		{2147483647.5, true, 0x7fffffff, api.NoTrap, 0x7fffffff},
		{2147483648, true, 0, api.TrapOverflow, 0x7fffffff},
		{2147483648.5, true, 0, api.TrapOverflow, 0x7fffffff},
		{2147483649, true, 0, api.TrapOverflow, 0x7fffffff},
		{4294967295, true, 0, api.TrapOverflow, 0x7fffffff},
		{-2147483647, true, 0x80000001, api.NoTrap, 0x80000001},
		{-2147483647.5, true, 0x80000001, api.NoTrap, 0x80000001},
		{-2147483648, true, 0x80000000, api.NoTrap, 0x80000000},
		{-2147483648.5, true, 0x80000000, api.NoTrap, 0x80000000},
		{-2147483649, true, 0, api.TrapOverflow, 0x80000000},
		{-4294967295, true, 0, api.TrapOverflow, 0x80000000},
		{-4294967296, true, 0, api.TrapOverflow, 0x80000000},
		{2147483647, false, 0x7fffffff, api.NoTrap, 0x7fffffff},
		{2147483648, false, 0x80000000, api.NoTrap, 0x80000000},
		{4294967294.5, false, 0xfffffffe, api.NoTrap, 0xfffffffe},
		{4294967295, false, 0xffffffff, api.NoTrap, 0xffffffff},
		{4294967295.5, false, 0xffffffff, api.NoTrap, 0xffffffff},
		{4294967296, false, 0, api.TrapOverflow, 0xffffffff},
		{4294967297, false, 0, api.TrapOverflow, 0xffffffff},
		{-0.5, false, 0, api.NoTrap, 0},
		{-1, false, 0, api.TrapOverflow, 0},
		{-1.5, false, 0, api.TrapOverflow, 0},
		{-2147483648, false, 0, api.TrapOverflow, 0},
	} {
		check(t, api.W64, api.W32, math.Float64bits(c.x), c.signed, c.n, c.trap, c.sat)
	}
}

// TestFarBeyond: powers of two from the first one beyond on to the greatest one, which no shift of 128 bits holds, and the greatest finite float.
func TestFarBeyond(t *testing.T) {
	for _, w := range widths {
		e, _ := layout(w)
		for _, to := range widths {
			for _, signed := range signs {
				low, high := Ends(to, signed)
				for n := to; n < 1<<(e-1); n++ {
					for _, a := range []uint64{power(w, n), power(w, n) + 1, power(w, n+1) - 1} {
						check(t, w, to, a, signed, 0, api.TrapOverflow, high)
						check(t, w, to, a|minus(w), signed, 0, api.TrapOverflow, low)
					}
				}
			}
		}
	}
}

// P12.1 and P12.2

// TestExactly: against numbers without an end.
func TestExactly(t *testing.T) {
	for _, w := range widths {
		for _, a := range numbers(w) {
			for _, to := range widths {
				checkExactly(t, w, to, a, false)
				checkExactly(t, w, to, a, true)
			}
		}
	}
}

// TestWithoutPattern: floats of any bits, and floats of these fractions and signs from 2^-2 to 2^66.
func TestWithoutPattern(t *testing.T) {
	for _, w := range widths {
		_, f := layout(w)
		for i, n := range words(20000) {
			a := n >> (64 - w)
			near := power(w, i%68-2) | a&(1<<f-1) | a&minus(w)
			for _, to := range widths {
				for _, signed := range signs {
					if a&^minus(w) <= infinite(w) {
						checkExactly(t, w, to, a, signed)
					}
					checkExactly(t, w, to, near, signed)
				}
			}
		}
	}
}

// byGo: what Go's own conversions make of a float that has a number of to bits.
func byGo(to int, x float64, signed bool) uint64 {
	switch {
	case to == api.W32 && signed:
		return uint64(uint32(int32(x)))
	case to == api.W32:
		return uint64(uint32(x))
	case signed:
		return uint64(int64(x))
	}
	return uint64(x)
}

// TestAgainstGo: against Go's own conversions, whose answers are told only of what is inside.
func TestAgainstGo(t *testing.T) {
	for _, w := range widths {
		for _, a := range numbers(w) {
			x := math.Trunc(float(w, a))
			for _, to := range widths {
				for _, signed := range signs {
					below, above := 0.0, math.Ldexp(1, to)
					if signed {
						below, above = -math.Ldexp(1, to-1), math.Ldexp(1, to-1)
					}
					if inside := below <= x && x < above; !inside {
						if n, trap := Trap(w, to, a, signed); n != 0 || trap != api.TrapOverflow {
							t.Fatalf("%x of %d to %d, signed %t: %x and trap %d", a, w, to, signed, n, trap)
						}
						continue
					}
					want := byGo(to, x, signed)
					check(t, w, to, a, signed, want, api.NoTrap, want)
				}
			}
		}
	}
}

// TestByDigits: the decimal digits ahead of the point, read as a number of to bits. Sixty digits behind it are enough for all that isn't below one; what is, doesn't come to one by them.
func TestByDigits(t *testing.T) {
	for _, w := range widths {
		for i := -3; i < 68; i++ {
			for _, frac := range fractions(w) {
				for _, a := range both(w, []uint64{power(w, i) | frac}) {
					text, _, _ := strings.Cut(strconv.FormatFloat(float(w, a), 'f', 60, 64), ".")
					for _, to := range widths {
						checkDigits(t, w, to, a, text)
					}
				}
			}
		}
	}
}

// checkDigits holds what is chopped against what strconv reads, which answers the end next to it of what is out of range.
func checkDigits(t *testing.T, w, to int, a uint64, text string) {
	t.Helper()
	overflow := func(err error) (trap api.Trap) {
		if errors.Is(err, strconv.ErrRange) {
			return api.TrapOverflow
		}
		return api.NoTrap
	}
	hold := func(signed bool, sat uint64, trap api.Trap) {
		t.Helper()
		n := sat
		if trap != api.NoTrap {
			n = 0
		}
		check(t, w, to, a, signed, n, trap, sat)
	}
	n, err := strconv.ParseInt(text, 10, to)
	hold(true, uint64(n)&(math.MaxUint64>>(64-to)), overflow(err))
	digits, negative := strings.CutPrefix(text, "-")
	if negative && digits != "0" {
		hold(false, 0, api.TrapOverflow)
		return
	}
	m, err := strconv.ParseUint(digits, 10, to)
	hold(false, m, overflow(err))
}

// TestNoNumber: of either sign and any fraction.
func TestNoNumber(t *testing.T) {
	for _, w := range widths {
		for _, none := range noNumbers(w) {
			for _, to := range widths {
				check(t, w, to, none, false, 0, api.TrapConvert, 0)
				check(t, w, to, none, true, 0, api.TrapConvert, 0)
			}
		}
	}
}

func TestInfinite(t *testing.T) {
	for _, w := range widths {
		a := infinite(w)
		check(t, w, api.W32, a, true, 0, api.TrapOverflow, 0x7fffffff)
		check(t, w, api.W32, a, false, 0, api.TrapOverflow, 0xffffffff)
		check(t, w, api.W64, a, true, 0, api.TrapOverflow, 0x7fffffffffffffff)
		check(t, w, api.W64, a, false, 0, api.TrapOverflow, 0xffffffffffffffff)
		a |= minus(w)
		check(t, w, api.W32, a, true, 0, api.TrapOverflow, 0x80000000)
		check(t, w, api.W32, a, false, 0, api.TrapOverflow, 0)
		check(t, w, api.W64, a, true, 0, api.TrapOverflow, 0x8000000000000000)
		check(t, w, api.W64, a, false, 0, api.TrapOverflow, 0)
	}
}

// TestBelowOne: noughts, subnormal ones, and all others between minus one and one are chopped to 0.
func TestBelowOne(t *testing.T) {
	for _, w := range widths {
		_, f := layout(w)
		l := []uint64{0, 1, 2, 3, 1<<f - 1, 1 << f, 1<<f + 1, power(w, 0) - 1}
		for _, frac := range fractions(w) {
			l = append(l, frac, power(w, -1)|frac, power(w, -2)|frac, power(w, -f)|frac, power(w, -f-1)|frac, power(w, -65)|frac)
		}
		for n := range 120 {
			l = append(l, power(w, -n-1), power(w, -n)-1)
		}
		for _, a := range both(w, l) {
			for _, to := range widths {
				check(t, w, to, a, false, 0, api.NoTrap, 0)
				check(t, w, to, a, true, 0, api.NoTrap, 0)
			}
		}
	}
}

// TestBitsAbove: of 32 bits the upper half of what is handed in doesn't count.
func TestBitsAbove(t *testing.T) {
	uppers := []uint64{0x7ff00000 << 32, 0x7ff80001 << 32, 0xbff00000 << 32, 0x41e00000 << 32, 0xffffffff << 32}
	for i := api.W32; i < 64; i++ {
		uppers = append(uppers, 1<<i)
	}
	for _, c := range []struct {
		a, n uint64
		trap api.Trap
		sat  uint64
	}{
		{0, 0, api.NoTrap, 0},
		{0x80000000, 0, api.NoTrap, 0},
		{1, 0, api.NoTrap, 0},
		{0x807fffff, 0, api.NoTrap, 0},
		{0xbf666666, 0, api.NoTrap, 0},
		{0x3f800000, 1, api.NoTrap, 1},
		{0x40490fdb, 3, api.NoTrap, 3},
		{0xc0a00000, 0xfffffffb, api.NoTrap, 0xfffffffb},
		{0x4effffff, 0x7fffff80, api.NoTrap, 0x7fffff80},
		{0xcf000000, 0x80000000, api.NoTrap, 0x80000000},
		{0x4f000000, 0, api.TrapOverflow, 0x7fffffff},
		{0xcf000001, 0, api.TrapOverflow, 0x80000000},
		{0x7f800000, 0, api.TrapOverflow, 0x7fffffff},
		{0xff800000, 0, api.TrapOverflow, 0x80000000},
		{0x7fc00000, 0, api.TrapConvert, 0},
		{0xff800001, 0, api.TrapConvert, 0},
	} {
		for _, upper := range uppers {
			check(t, api.W32, api.W32, upper|c.a, true, c.n, c.trap, c.sat)
		}
	}
	for _, a := range numbers(api.W32) {
		for _, to := range widths {
			for _, signed := range signs {
				n, trap, sat := exactly(api.W32, to, a, signed)
				check(t, api.W32, to, 0xffffffff<<32|a, signed, n, trap, sat)
				check(t, api.W32, to, 0x7ff00000<<32|a, signed, n, trap, sat)
			}
		}
	}
}

// TestNoWidth: 0 and no trap of another w, of another to, and of both, whatever is handed in.
func TestNoWidth(t *testing.T) {
	l := []uint64{0, 1, 1 << 31, 1 << 32, 1 << 63, 0x3f800000, 0xbf800000, 0x4f000000, math.MaxUint32, math.MaxUint64}
	for _, w := range widths {
		l = append(l, both(w, []uint64{power(w, 0), power(w, 3), power(w, 31), power(w, 63), power(w, 100), infinite(w), infinite(w) + 1, infinite(w) - 1})...)
	}
	for _, not := range notWidths {
		for _, other := range append(widths, notWidths...) {
			for _, a := range l {
				for _, signed := range signs {
					check(t, not, other, a, signed, 0, api.NoTrap, 0)
					check(t, other, not, a, signed, 0, api.NoTrap, 0)
				}
			}
		}
	}
}

// P12.2

func TestEnds(t *testing.T) {
	for _, c := range []struct {
		to        int
		signed    bool
		low, high uint64
	}{
		{api.W32, true, 0x80000000, 0x7fffffff},
		{api.W32, false, 0, 0xffffffff},
		{api.W64, true, 0x8000000000000000, 0x7fffffffffffffff},
		{api.W64, false, 0, 0xffffffffffffffff},
	} {
		if low, high := Ends(c.to, c.signed); low != c.low || high != c.high {
			t.Errorf("%d, signed %t: %x and %x", c.to, c.signed, low, high)
		}
	}
	for _, not := range notWidths {
		for _, signed := range signs {
			if low, high := Ends(not, signed); low != 0 || high != 0 {
				t.Errorf("%d, signed %t: %x and %x", not, signed, low, high)
			}
		}
	}
}

// TestSatIsAnEnd: where there is too much, Sat is the end on the side of the sign.
func TestSatIsAnEnd(t *testing.T) {
	for _, w := range widths {
		for _, a := range numbers(w) {
			for _, to := range widths {
				for _, signed := range signs {
					_, trap := Trap(w, to, a, signed)
					want, high := Ends(to, signed)
					if a&minus(w) == 0 {
						want = high
					}
					if got := Sat(w, to, a, signed); trap != api.NoTrap && got != want {
						t.Fatalf("%x of %d to %d, signed %t: %x, not %x", a, w, to, signed, got, want)
					}
				}
			}
		}
	}
}

// P12.3

// TestSameWithoutTrap: where nothing traps both are the same.
func TestSameWithoutTrap(t *testing.T) {
	for _, w := range widths {
		for _, a := range append(numbers(w), noNumbers(w)...) {
			for _, to := range widths {
				for _, signed := range signs {
					n, trap := Trap(w, to, a, signed)
					if got := Sat(w, to, a, signed); trap == api.NoTrap && got != n {
						t.Fatalf("%x of %d to %d, signed %t: %x and %x", a, w, to, signed, n, got)
					}
				}
			}
		}
	}
}

// wholes: whole numbers of that width: all of few bits, both ends with and without a sign, each power of two, each row of ones, what lies beside them, and numbers without a pattern, of all lengths.
func wholes(to int) []uint64 {
	var l []uint64
	all := uint64(math.MaxUint64) >> (64 - to)
	add := func(n uint64) {
		for d := range uint64(4) {
			l = append(l, (n+d)&all, (n-d)&all, (d-n)&all)
		}
	}
	for n := range uint64(300) {
		add(n)
	}
	for i := range to {
		for j := range i + 1 {
			add(1<<i | 1<<j)
			add(1<<i - 1<<j)
		}
	}
	for i, n := range words(3000) {
		add(n >> (i % 64))
	}
	return l
}

// TestCastAndChopped: what is cast exactly is chopped to what it was.
func TestCastAndChopped(t *testing.T) {
	for _, w := range widths {
		for _, to := range widths {
			for _, n := range wholes(to) {
				if cast.Exact(w, to, n, true) {
					check(t, w, to, cast.FromInt(w, to, n), true, n, api.NoTrap, n)
				}
				if cast.Exact(w, to, n, false) {
					check(t, w, to, cast.FromUint(w, to, n), false, n, api.NoTrap, n)
				}
			}
		}
	}
}

// TestShortComeBack: whole numbers of at most as many bits as a float has are floats of Go's too, of either sign, and are chopped to what they were.
func TestShortComeBack(t *testing.T) {
	for _, w := range widths {
		_, f := layout(w)
		for i, n := range words(5000) {
			n >>= 63 - f + i%f
			back := func(to int, a uint64, signed bool, want uint64) {
				t.Helper()
				check(t, w, to, a, signed, want, api.NoTrap, want)
			}
			a := bitsOf(w, float64(n))
			back(api.W64, a, true, n)
			back(api.W64, a, false, n)
			back(api.W64, a^minus(w), true, -n)
			if n <= math.MaxInt32 {
				back(api.W32, a, true, n)
				back(api.W32, a, false, n)
				back(api.W32, a^minus(w), true, uint64(uint32(-n)))
			}
		}
	}
}
