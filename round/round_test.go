package round

import (
	"math"
	"math/big"
	"slices"
	"testing"

	"trunnion/api"
	"trunnion/shape"
	"trunnion/wide"
)

var (
	widths = []int{api.W32, api.W64}
	signs  = []bool{false, true}
)

// notWidths: numbers that are no width, those near to one and those far away.
var notWidths = []int{0, 1, -1, 8, 16, 23, 31, 33, 52, 63, 65, 96, 128, -32, -64, 32 + 1<<32, 64 + 1<<32, math.MaxInt, math.MinInt}

// layout: a width's fields, and the powers of two of its least and its greatest floats, written out once more.
func layout(w int) (e, f, least, most int) {
	if w == api.W32 {
		return 8, 23, -149, 104
	}
	return 11, 52, -1074, 971
}

// signBit: the sign of a float of that width.
func signBit(w int, neg bool) uint64 {
	if neg {
		return 1 << (w - 1)
	}
	return 0
}

// infinite: the infinite one, which comes behind the greatest finite one.
func infinite(w int) uint64 {
	e, f, _, _ := layout(w)
	return (1<<e - 1) << f
}

// words: numbers of 64 bits without a pattern, the same at each run.
func words(n int) []uint64 {
	l := make([]uint64, n)
	x := uint64(0x9e3779b97f4a7c15)
	for i := range l {
		x ^= x << 13
		x ^= x >> 7
		x ^= x << 17
		l[i] = x
	}
	return l
}

// oracle: the float that package big makes of the number, without a sign.
func oracle(w int, sig api.Wide, exp int, more bool) uint64 {
	n := new(big.Int).SetUint64(sig.Hi)
	n.Lsh(n, 64).Or(n, new(big.Int).SetUint64(sig.Lo))
	n.Lsh(n, 1)
	if more {
		n.SetBit(n, 0, 1)
	}
	x := new(big.Float).SetPrec(256).SetInt(n)
	x.SetMantExp(x, exp-1)
	if w == api.W32 {
		r, _ := x.Float32()
		return uint64(math.Float32bits(r))
	}
	r, _ := x.Float64()
	return math.Float64bits(r)
}

// sigs: of each length the edges and some numbers between, and those whose bits tie at each place.
func sigs() []api.Wide {
	l := []api.Wide{{}, {Hi: math.MaxUint64, Lo: math.MaxUint64}}
	random := words(512)
	for i := range 128 {
		one := wide.Left(wide.Of(1), i)
		l = append(l, one, wide.Add(one, wide.Of(1)), wide.Sub(one, wide.Of(1)))
		long, _ := wide.Right(api.Wide{Hi: random[2*i] | 1<<63, Lo: random[2*i+1]}, i)
		l = append(l, long)
	}
	for _, f := range []int{23, 52} {
		for i, n := range random[256:276] {
			// f + 1 bits and a half of the last one, and numbers just beside that.
			tie := wide.Left(wide.Of((n|1<<63)>>(63-f)<<1|1), 3*i)
			l = append(l, tie, wide.Add(tie, wide.Of(1)), wide.Sub(tie, wide.Of(1)))
		}
	}
	return l
}

// TestPack holds Pack against package big at all exponents where a float may be the answer, and beyond them.
func TestPack(t *testing.T) {
	all := sigs()
	for _, w := range widths {
		_, _, least, most := layout(w)
		for exp := least - 135; exp <= most+80; exp++ {
			for _, sig := range all {
				for _, more := range signs {
					checkPack(t, w, sig, exp, more)
				}
			}
		}
	}
}

func checkPack(t *testing.T, w int, sig api.Wide, exp int, more bool) {
	t.Helper()
	want := oracle(w, sig, exp, more)
	for _, neg := range signs {
		if got := Pack(w, neg, sig, exp, more); got != want|signBit(w, neg) {
			t.Fatalf("%d %v %x %d %v: %x, not %x", w, neg, sig, exp, more, got, want|signBit(w, neg))
		}
	}
}

func TestPackExamples(t *testing.T) {
	for _, c := range []struct {
		w    int
		neg  bool
		sig  api.Wide
		exp  int
		more bool
		want uint64
	}{
		{api.W64, false, wide.Of(1), -1075, false, 0},
		{api.W64, true, wide.Of(1), -1075, false, 1 << 63},
		{api.W64, false, wide.Of(1), -1075, true, 1},
		{api.W64, false, wide.Of(0), -1073, true, 1},
		{api.W64, false, wide.Of(0), -1074, true, 0},
		{api.W64, true, wide.Of(0), -1074, true, 1 << 63},
		{api.W64, false, wide.Of(3), -1075, false, 2},
		{api.W64, false, wide.Of(1), -1074, true, 2},
		{api.W64, false, wide.Of(5), -1075, false, 2},
		{api.W32, false, wide.Of(1), -150, false, 0},
		{api.W32, true, wide.Of(1), -150, false, 1 << 31},
		{api.W32, true, wide.Of(1), -150, true, 1<<31 | 1},
		{api.W32, false, wide.Of(0), 1, true, 0x3f800000},
		{api.W32, false, wide.Of(0), 128, true, 0x7f000000},
		{api.W32, false, wide.Of(0), 129, true, 0x7f800000},
		{api.W32, true, wide.Of(0), 129, true, 0xff800000},
		// The last number that is finite, and the tie whose even side isn't.
		{api.W32, false, wide.Of(1<<25 - 1), 103, false, 0x7f800000},
		{api.W32, true, wide.Of(1<<25 - 1), 103, false, 0xff800000},
		{api.W32, false, wide.Of(1<<26 - 3), 102, true, 0x7f7fffff},
		{api.W32, false, wide.Of(1<<24 - 1), 104, true, 0x7f800000},
		{api.W64, false, wide.Of(1<<54 - 1), 970, false, 0x7ff0000000000000},
		{api.W64, false, wide.Of(1<<55 - 3), 969, true, 0x7fefffffffffffff},
		{api.W64, true, wide.Of(1<<55 - 3), 969, true, 0xffefffffffffffff},
		// What is rounded up from the greatest fraction has the next exponent.
		{api.W32, false, wide.Of(1<<25 - 1), -25, false, 0x3f800000},
		{api.W32, false, wide.Of(1<<24 - 1), -150, false, 0x00800000},
		// All 128 bits, and half of one more.
		{api.W64, false, api.Wide{Hi: 1<<63 | 1<<10, Lo: 0}, -127, false, 0x3ff0000000000000},
		{api.W64, false, api.Wide{Hi: 1<<63 | 1<<10, Lo: 0}, -127, true, 0x3ff0000000000001},
		{api.W64, false, api.Wide{Hi: 1<<63 | 1<<10, Lo: 1}, -127, false, 0x3ff0000000000001},
		{api.W64, false, api.Wide{Hi: 1<<63 | 3<<10, Lo: 0}, -127, false, 0x3ff0000000000002},
		{api.W64, false, api.Wide{Hi: math.MaxUint64, Lo: math.MaxUint64}, -128, true, 0x3ff0000000000000},
	} {
		if got := Pack(c.w, c.neg, c.sig, c.exp, c.more); got != c.want {
			t.Errorf("%v: %x", c, got)
		}
	}
}

// TestPackFar: at the ends of an int's range each number is infinite or nought, but nought is nought everywhere.
func TestPackFar(t *testing.T) {
	for _, w := range widths {
		for _, neg := range signs {
			nought, inf := signBit(w, neg), signBit(w, neg)|infinite(w)
			for _, far := range []int{2000, 4095, 4096, 4097, 1 << 31, 1 << 32, 1<<32 + 1, 1 << 40, math.MaxInt - 128, math.MaxInt - 1, math.MaxInt} {
				for _, sig := range sigs() {
					for _, more := range signs {
						up := inf
						if sig == (api.Wide{}) && !more {
							up = nought
						}
						if got := Pack(w, neg, sig, far, more); got != up {
							t.Fatalf("%d %v %x %d %v: %x", w, neg, sig, far, more, got)
						}
						for _, exp := range []int{-far, -far - 1} {
							if got := Pack(w, neg, sig, exp, more); got != nought {
								t.Fatalf("%d %v %x %d %v: %x", w, neg, sig, exp, more, got)
							}
						}
					}
				}
			}
		}
	}
}

func TestWhole(t *testing.T) {
	numbers := words(2000)
	for i, n := range words(2000) {
		numbers = append(numbers, n>>(i%64))
	}
	for i := range 64 {
		for d := range uint64(5) {
			numbers = append(numbers, 1<<i+d-2)
		}
	}
	for _, w := range widths {
		for _, n := range append(numbers, math.MaxUint64, math.MaxUint32, 1<<53+1, 1<<24+1, 1<<24+3) {
			if n == 0 {
				continue
			}
			want := math.Float64bits(float64(n))
			if w == api.W32 {
				want = uint64(math.Float32bits(float32(n)))
			}
			for _, neg := range signs {
				if got := Whole(w, neg, n); got != want|signBit(w, neg) {
					t.Fatalf("%d %v %d: %x, not %x", w, neg, n, got, want|signBit(w, neg))
				}
			}
		}
		for _, neg := range signs {
			if got := Whole(w, neg, 0); got != 0 {
				t.Errorf("%d %v 0: %x", w, neg, got)
			}
		}
	}
	if got := Whole(api.W32, false, 16777217); got != 1266679808 {
		t.Error(got)
	}
}

// TestNarrow: of what is finite whatever Sig and Exp are, not only those that Open answers.
func TestNarrow(t *testing.T) {
	some := append(words(30), 0, 1, 2, 3, 1<<23, 1<<24-1, 1<<24, 1<<24+1, 1<<25-1, 1<<52, 1<<53-1, 1<<53+1, 1<<54-1, 1<<63, math.MaxUint64)
	for _, w := range widths {
		_, _, least, most := layout(w)
		for _, neg := range signs {
			for exp := least - 70; exp <= most+70; exp++ {
				for _, sig := range some {
					p := api.Parts{Neg: neg, Kind: api.KindFinite, Exp: exp, Sig: sig}
					want := oracle(w, wide.Of(sig), exp, false) | signBit(w, neg)
					if got := Narrow(w, p); got != want {
						t.Fatalf("%d %v: %x, not %x", w, p, got, want)
					}
				}
			}
			for exp, want := range map[int]uint64{math.MaxInt: infinite(w), math.MinInt: 0} {
				p := api.Parts{Neg: neg, Kind: api.KindFinite, Exp: exp, Sig: 1}
				if got := Narrow(w, p); got != want|signBit(w, neg) {
					t.Errorf("%d %v: %x", w, p, got)
				}
			}
		}
	}
}

// TestNarrowBetweenWidths holds floats of one width made ones of the other against Go's own.
func TestNarrowBetweenWidths(t *testing.T) {
	for _, bits := range samples(api.W64) {
		x := math.Float64frombits(bits)
		want := uint64(math.Float32bits(float32(x)))
		if math.IsNaN(x) {
			want = 0x7fc00000
		}
		if got := Narrow(api.W32, shape.Open(api.W64, bits)); got != want {
			t.Fatalf("%x: %x, not %x", bits, got, want)
		}
	}
	for _, bits := range samples(api.W32) {
		x := float64(math.Float32frombits(uint32(bits)))
		want := math.Float64bits(x)
		if math.IsNaN(x) {
			want = 0x7ff8000000000000
		}
		if got := Narrow(api.W64, shape.Open(api.W32, bits)); got != want {
			t.Fatalf("%x: %x, not %x", bits, got, want)
		}
	}
}

// TestNarrowOfOtherKinds: Sig and Exp count for what is finite alone.
func TestNarrowOfOtherKinds(t *testing.T) {
	others := []api.Parts{{}, {Exp: -23, Sig: 1 << 23}, {Exp: math.MaxInt, Sig: math.MaxUint64}, {Exp: math.MinInt}}
	for _, w := range widths {
		for _, neg := range signs {
			for kind, want := range map[int]uint64{
				api.KindZero: signBit(w, neg),
				api.KindInf:  signBit(w, neg) | infinite(w),
				api.KindNaN:  shape.Nan(w),
				-1:           0,
				4:            0,
				1 << 32:      0,
				1<<32 + 1:    0,
				math.MaxInt:  0,
				math.MinInt:  0,
			} {
				for _, p := range others {
					p.Neg, p.Kind = neg, kind
					if got := Narrow(w, p); got != want {
						t.Errorf("%d %v: %x, not %x", w, p, got, want)
					}
				}
			}
		}
	}
}

func TestNoWidth(t *testing.T) {
	numbers := append(sigs(), wide.Of(1<<24-1), wide.Of(1<<53-1))
	for _, w := range notWidths {
		for _, neg := range signs {
			for _, sig := range numbers {
				for _, exp := range []int{math.MinInt, -1074, -149, -128, -23, -1, 0, 1, 23, 971, math.MaxInt} {
					p := api.Parts{Neg: neg, Kind: api.KindFinite, Exp: exp, Sig: sig.Lo}
					if a, b, c := Pack(w, neg, sig, exp, false), Pack(w, neg, sig, exp, true), Narrow(w, p); a != 0 || b != 0 || c != 0 {
						t.Fatalf("%d %v %x %d: %x %x %x", w, neg, sig, exp, a, b, c)
					}
				}
				if got := Whole(w, neg, sig.Lo); got != 0 {
					t.Fatalf("%d %v %d: %x", w, neg, sig.Lo, got)
				}
			}
			for kind := range 5 {
				if got := Narrow(w, api.Parts{Neg: neg, Kind: kind}); got != 0 {
					t.Errorf("%d kind %d: %x", w, kind, got)
				}
			}
		}
	}
}

// samples: floats, of each sign and each exponent's field the fraction's edges and some fractions between.
func samples(w int) []uint64 {
	e, f, _, _ := layout(w)
	all := uint64(1)<<f - 1
	fracs := []uint64{0, 1, 2, 3, all >> 1, all>>1 + 1, all>>1 + 2, all - 1, all}
	for _, n := range words(6) {
		fracs = append(fracs, n&all)
	}
	for i := range f {
		fracs = append(fracs, 1<<i)
	}
	slices.Sort(fracs)
	var l []uint64
	for sign := range uint64(2) {
		for exp := range uint64(1) << e {
			for _, frac := range fracs {
				l = append(l, sign<<(w-1)|exp<<f|frac)
			}
		}
	}
	return l
}

// TestFloatsStay: what is a float is rounded to itself, whichever parts it is written by.
func TestFloatsStay(t *testing.T) {
	for _, w := range widths {
		for _, bits := range samples(w) {
			p := shape.Open(w, bits)
			want := bits
			if p.Kind == api.KindNaN {
				want = shape.Nan(w)
			}
			if got := Narrow(w, p); got != want {
				t.Fatalf("%d %x: %x", w, bits, got)
			}
			if p.Kind != api.KindFinite {
				continue
			}
			for _, k := range []int{0, 1, 11, 12, 64, 128 - wide.Len(wide.Of(p.Sig))} {
				if got := Pack(w, p.Neg, wide.Left(wide.Of(p.Sig), k), p.Exp-k, false); got != bits {
					t.Fatalf("%d %x by %d: %x", w, bits, k, got)
				}
			}
			if p.Sig&1 == 1 {
				if got := Pack(w, p.Neg, wide.Of(p.Sig>>1), p.Exp+1, true); got != bits {
					t.Fatalf("%d %x with more: %x", w, bits, got)
				}
			}
		}
	}
}

// TestBetweenFloats goes from each float to the next one by eighths and their halves, as the chapter's words say what is nearest, up to the infinite one.
func TestBetweenFloats(t *testing.T) {
	for _, w := range widths {
		_, f, least, _ := layout(w)
		for _, bits := range samples(w) {
			if bits >= infinite(w) {
				break
			}
			p := shape.Open(w, bits)
			if p.Kind == api.KindZero {
				p.Exp = least
			}
			for _, k := range []int{3, 8, 60, 126 - f} {
				for i := range uint64(9) {
					sig := wide.Add(wide.Left(wide.Of(p.Sig), k), wide.Left(wide.Of(i), k-3))
					for _, more := range signs {
						want := bits
						if i > 4 || i == 4 && (more || bits&1 == 1) {
							want++
						}
						got := Pack(w, false, sig, p.Exp-k, more)
						if got != want {
							t.Fatalf("%d %x and %d eighths %v by %d: %x, not %x", w, bits, i, more, k, got, want)
						}
						if neg := Pack(w, true, sig, p.Exp-k, more); neg != got|signBit(w, true) {
							t.Fatalf("%d -%x and %d eighths %v by %d: %x", w, bits, i, more, k, neg)
						}
					}
				}
			}
		}
	}
}

// TestNeverBelow: numbers in their order are rounded to floats in theirs. Floats without a sign lie as their bits do, those with one the other way round.
func TestNeverBelow(t *testing.T) {
	all := sigs()
	slices.SortFunc(all, wide.Cmp)
	all = slices.Compact(all)
	for _, w := range widths {
		_, _, least, most := layout(w)
		for exp := least - 130; exp <= most+10; exp++ {
			var last uint64
			for _, sig := range all {
				for _, more := range signs {
					got, neg := Pack(w, false, sig, exp, more), Pack(w, true, sig, exp, more)
					if got < last || got > infinite(w) || neg != got|signBit(w, true) {
						t.Fatalf("%d %x %d %v: %x is below %x, or is not %x", w, sig, exp, more, got, last, neg)
					}
					last = got
				}
			}
		}
		for _, sig := range all {
			var last uint64
			for exp := least - 130; exp <= most+10; exp++ {
				if got := Pack(w, false, sig, exp, false); got < last {
					t.Fatalf("%d %x %d: %x is below %x", w, sig, exp, got, last)
				} else {
					last = got
				}
			}
		}
	}
}
