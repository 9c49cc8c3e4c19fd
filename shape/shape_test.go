package shape

import (
	"math"
	"math/big"
	"testing"

	"trunnion/api"
)

var widths = []int{api.W32, api.W64}

// notWidths: numbers that are no width, those near to one and those far away.
var notWidths = []int{0, 1, -1, 8, 16, 23, 31, 33, 52, 63, 65, 96, 128, -32, -64, 32 + 1<<32, 64 + 1<<32, math.MaxInt, math.MinInt}

// layout: a width's sizes, written out once more.
func layout(w int) (e, f, bias int) {
	if w == api.W32 {
		return 8, 23, 127
	}
	return 11, 52, 1023
}

// words: numbers of 64 bits without a pattern, the same at each run.
func words(n int) []uint64 {
	l := make([]uint64, n)
	x := uint64(0x9e3779b97f4a7c15)
	for i := range l {
		x ^= x << 13
		x ^= x >> 7
		x ^= x << 17
		l[i] = x
	}
	return l
}

// floats: of each sign and each exponent's field the fraction's edges and some fractions between.
func floats(w int) []uint64 {
	e, f, _ := layout(w)
	all := uint64(1)<<f - 1
	fracs := []uint64{0, 1, 2, 3, all >> 1, all>>1 + 1, all>>1 + 2, all - 1, all}
	for _, n := range words(6) {
		fracs = append(fracs, n&all)
	}
	for i := range f {
		fracs = append(fracs, 1<<i)
	}
	var l []uint64
	for sign := range uint64(2) {
		for exp := range uint64(1) << e {
			for _, frac := range fracs {
				l = append(l, sign<<(w-1)|exp<<f|frac)
			}
		}
	}
	return l
}

// number: the float that Go makes of the bits. Each float of 32 bits is one of 64.
func number(w int, bits uint64) float64 {
	if w == api.W32 {
		return float64(math.Float32frombits(uint32(bits)))
	}
	return math.Float64frombits(bits)
}

// bitsOf: the bits of the number Sig · 2^Exp, and whether it is a float of that width.
func bitsOf(w int, p api.Parts) (uint64, bool) {
	if p.Exp < -2000 || p.Exp > 2000 {
		return 0, false
	}
	n := new(big.Float).SetUint64(p.Sig)
	n.SetMantExp(n, p.Exp)
	if p.Neg {
		n.Neg(n)
	}
	if w == api.W32 {
		x, acc := n.Float32()
		return uint64(math.Float32bits(x)), acc == big.Exact
	}
	x, acc := n.Float64()
	return math.Float64bits(x), acc == big.Exact
}

func TestFields(t *testing.T) {
	if e, f := Fields(api.W32); e != 8 || f != 23 {
		t.Error(e, f)
	}
	if e, f := Fields(api.W64); e != 11 || f != 52 {
		t.Error(e, f)
	}
}

func TestCut(t *testing.T) {
	for _, bits := range append(words(100), 0, 1, math.MaxUint64, math.MaxUint32, math.MaxUint32+1, 1<<31, 1<<63) {
		if got := Cut(api.W32, bits); got != uint64(uint32(bits)) {
			t.Errorf("32 of %x: %x", bits, got)
		}
		if got := Cut(api.W64, bits); got != bits {
			t.Errorf("64 of %x: %x", bits, got)
		}
	}
}

func TestEnds(t *testing.T) {
	for _, c := range []struct {
		name      string
		got, want uint64
	}{
		{"Nan 32", Nan(api.W32), 2143289344},
		{"Nan 64", Nan(api.W64), 0x7ff8000000000000},
		{"Inf 32", Inf(api.W32, false), uint64(math.Float32bits(float32(math.Inf(1))))},
		{"-Inf 32", Inf(api.W32, true), uint64(math.Float32bits(float32(math.Inf(-1))))},
		{"Inf 64", Inf(api.W64, false), math.Float64bits(math.Inf(1))},
		{"-Inf 64", Inf(api.W64, true), math.Float64bits(math.Inf(-1))},
		{"Zero 32", Zero(api.W32, false), 0},
		{"-Zero 32", Zero(api.W32, true), 1 << 31},
		{"Zero 64", Zero(api.W64, false), 0},
		{"-Zero 64", Zero(api.W64, true), 1 << 63},
		{"Most 32", Most(api.W32, false), uint64(math.Float32bits(math.MaxFloat32))},
		{"-Most 32", Most(api.W32, true), uint64(math.Float32bits(-math.MaxFloat32))},
		{"Most 64", Most(api.W64, false), math.Float64bits(math.MaxFloat64)},
		{"-Most 64", Most(api.W64, true), math.Float64bits(-math.MaxFloat64)},
	} {
		if c.got != c.want {
			t.Errorf("%s: %x, not %x", c.name, c.got, c.want)
		}
	}
}

func TestIsNan(t *testing.T) {
	for _, w := range widths {
		for _, bits := range floats(w) {
			if got, want := IsNan(w, bits), math.IsNaN(number(w, bits)); got != want {
				t.Fatalf("%d %x: %v", w, bits, got)
			}
		}
	}
}

// TestOpen holds what is taken apart against the number that Go makes of the same bits.
func TestOpen(t *testing.T) {
	for _, w := range widths {
		for _, bits := range floats(w) {
			n, p := number(w, bits), Open(w, bits)
			want := api.Parts{Neg: math.Signbit(n), Exp: p.Exp, Sig: p.Sig}
			switch {
			case math.IsNaN(n):
				want = api.Parts{Kind: api.KindNaN}
			case math.IsInf(n, 0):
				want = api.Parts{Neg: n < 0, Kind: api.KindInf}
			case n == 0:
				want = api.Parts{Neg: math.Signbit(n), Kind: api.KindZero}
			default:
				want.Kind = api.KindFinite
				checkFinite(t, w, bits, p)
			}
			if p != want {
				t.Fatalf("%d %x: %v, not %v", w, bits, p, want)
			}
		}
	}
}

// checkFinite: the parts make the number, and they are the ones that the chapter says (one number has several parts).
func checkFinite(t *testing.T, w int, bits uint64, p api.Parts) {
	t.Helper()
	if got, exact := bitsOf(w, p); !exact || got != bits {
		t.Fatalf("%d %x: %v make %x", w, bits, p, got)
	}
	_, f, bias := layout(w)
	least := 1 - bias - f
	if p.Sig == 0 || p.Sig >= 1<<(f+1) {
		t.Fatalf("%d %x: Sig %x", w, bits, p.Sig)
	}
	if p.Exp < least || p.Exp > least && p.Sig < 1<<f {
		t.Fatalf("%d %x: %v is not in its lowest form", w, bits, p)
	}
}

func TestOpenExamples(t *testing.T) {
	for bits, want := range map[uint64]api.Parts{
		1065353216: {Kind: api.KindFinite, Exp: -23, Sig: 8388608},
		0:          {},
		1 << 31:    {Neg: true},
		1:          {Kind: api.KindFinite, Exp: -149, Sig: 1},
		0x807fffff: {Neg: true, Kind: api.KindFinite, Exp: -149, Sig: 1<<23 - 1},
		0x00800000: {Kind: api.KindFinite, Exp: -149, Sig: 1 << 23},
		0x01000000: {Kind: api.KindFinite, Exp: -148, Sig: 1 << 23},
		0x7f7fffff: {Kind: api.KindFinite, Exp: 104, Sig: 1<<24 - 1},
		0xff800000: {Neg: true, Kind: api.KindInf},
		0x7f800001: {Kind: api.KindNaN},
		0xffc00000: {Kind: api.KindNaN},
		0xffffffff: {Kind: api.KindNaN},
	} {
		// The upper half of what is handed in doesn't count.
		for _, above := range []uint64{0, 1 << 32, 0xffffffff << 32, 0x7ff00000 << 32} {
			if p := Open(api.W32, above|bits); p != want {
				t.Errorf("%x: %v, not %v", above|bits, p, want)
			}
			if got := IsNan(api.W32, above|bits); got != (want.Kind == api.KindNaN) {
				t.Errorf("%x: IsNan %v", above|bits, got)
			}
		}
	}
}

func TestCloseOfOpen(t *testing.T) {
	for _, w := range widths {
		for _, bits := range floats(w) {
			want := bits
			if IsNan(w, bits) {
				want = Nan(w)
			}
			if got, e := Close(w, Open(w, bits)); got != want || e != api.OK {
				t.Fatalf("%d %x: %x %d", w, bits, got, e)
			}
		}
	}
}

// exps: all powers that a width has, those beside them, and those far outside.
func exps(w int) []int {
	e, f, bias := layout(w)
	l := []int{math.MinInt, math.MinInt + 1, math.MaxInt, math.MaxInt - 1, math.MinInt32, math.MaxInt32, 1 << 40, -1 << 40}
	for exp := -bias - f - 3; exp <= 1<<e-bias-f+3; exp++ {
		l = append(l, exp)
	}
	return l
}

// sigs: all edges of a fraction's field, and numbers that don't fit it.
func sigs(w int) []uint64 {
	_, f, _ := layout(w)
	l := words(6)
	for _, n := range words(6) {
		l = append(l, n>>(63-f), n>>(64-f))
	}
	for i := range 64 {
		l = append(l, 1<<i-1, 1<<i, 1<<i+1)
	}
	return append(l, math.MaxUint64, 1<<f|1<<63)
}

// TestClose: parts are accepted just if there is a float that is taken apart into them.
func TestClose(t *testing.T) {
	for _, w := range widths {
		for _, exp := range exps(w) {
			for _, sig := range sigs(w) {
				for _, neg := range []bool{false, true} {
					p := api.Parts{Neg: neg, Kind: api.KindFinite, Exp: exp, Sig: sig}
					bits, exact := bitsOf(w, p)
					want := api.ErrArg
					if exact && Open(w, bits) == p {
						want = api.OK
					} else {
						bits = 0
					}
					if got, e := Close(w, p); got != bits || e != want {
						t.Fatalf("%d %v: %x %d, not %x %d", w, p, got, e, bits, want)
					}
				}
			}
		}
	}
}

func TestCloseOfOtherKinds(t *testing.T) {
	for _, w := range widths {
		for _, neg := range []bool{false, true} {
			for kind, want := range map[int]uint64{
				api.KindZero: Zero(w, neg),
				api.KindInf:  Inf(w, neg),
				api.KindNaN:  Nan(w),
			} {
				if got, e := Close(w, api.Parts{Neg: neg, Kind: kind}); got != want || e != api.OK {
					t.Errorf("%d kind %d: %x %d", w, kind, got, e)
				}
				for _, exp := range exps(w) {
					for _, sig := range sigs(w) {
						p := api.Parts{Neg: neg, Kind: kind, Exp: exp, Sig: sig}
						if got, e := Close(w, p); (exp != 0 || sig != 0) && (got != 0 || e != api.ErrArg) {
							t.Fatalf("%d %v: %x %d", w, p, got, e)
						}
					}
				}
			}
			for _, kind := range []int{-1, 4, 5, 1 << 32, 1<<32 + 1, math.MinInt, math.MaxInt} {
				for _, p := range []api.Parts{{}, {Exp: -23, Sig: 1 << 23}} {
					p.Neg, p.Kind = neg, kind
					if got, e := Close(w, p); got != 0 || e != api.ErrArg {
						t.Errorf("%d %v: %x %d", w, p, got, e)
					}
				}
			}
		}
	}
}

func TestNoWidth(t *testing.T) {
	for _, w := range notWidths {
		if e, f := Fields(w); e != 0 || f != 0 {
			t.Errorf("%d: Fields %d %d", w, e, f)
		}
		for _, neg := range []bool{false, true} {
			if Nan(w) != 0 || Inf(w, neg) != 0 || Zero(w, neg) != 0 || Most(w, neg) != 0 {
				t.Errorf("%d %v: %x %x %x %x", w, neg, Nan(w), Inf(w, neg), Zero(w, neg), Most(w, neg))
			}
		}
		for _, bits := range append(words(20), 0, 1, math.MaxUint64, 0x7f800001, 0x7ff0000000000001, 0x3f800000) {
			if Cut(w, bits) != 0 || IsNan(w, bits) || Open(w, bits) != (api.Parts{}) {
				t.Errorf("%d %x: %x %v %v", w, bits, Cut(w, bits), IsNan(w, bits), Open(w, bits))
			}
		}
		for _, p := range []api.Parts{{}, {Neg: true}, {Kind: api.KindFinite, Exp: -23, Sig: 1 << 23}, {Kind: api.KindFinite, Sig: 1}, {Kind: api.KindInf}, {Kind: api.KindNaN}, {Kind: 9}} {
			if got, e := Close(w, p); got != 0 || e != api.ErrArg {
				t.Errorf("%d %v: %x %d", w, p, got, e)
			}
		}
	}
}
