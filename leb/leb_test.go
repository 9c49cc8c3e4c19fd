package leb

import (
	"bytes"
	"encoding/binary"
	"math"
	"math/big"
	"testing"

	"trunnion/api"
)

// reader: one of the two calls that read, what puts for it, and which kind it is.
type reader struct {
	name   string
	read   func(b []byte, at, bits int) (uint64, int, api.Errno)
	put    func(n uint64) []byte
	signed bool
}

var readers = []reader{{"Uint", Uint, PutUint, false}, {"Sint", Sint, PutSint, true}}

// edges: bytes at and beside those where the form changes, and each bound that some bits that are left give.
var edges = []byte{0, 1, 2, 3, 4, 7, 8, 15, 16, 31, 32, 33, 62, 63, 64, 65, 95, 96, 97, 111, 112, 119, 120, 123, 124, 125, 126, 127, 128, 129, 130, 191, 192, 193, 254, 255}

// notBits: numbers that no bits are, those near to one and those far away.
var notBits = []int{0, -1, -2, -6, -7, -8, -32, -64, 65, 66, 70, 71, 77, 96, 128, 32 + 1<<32, 64 + 1<<32, -1 << 32, math.MaxInt, math.MaxInt - 1, math.MinInt, math.MinInt + 1}

// words: numbers of 64 bits without a pattern, the same at each run.
func words(n int) []uint64 {
	l := make([]uint64, n)
	x := uint64(0x9e3779b97f4a7c15)
	for i := range l {
		x ^= x << 13
		x ^= x >> 7
		x ^= x << 17
		l[i] = x
	}
	return l
}

// power: 2^n, without an end.
func power(n int) *big.Int { return new(big.Int).Lsh(big.NewInt(1), uint(n)) }

// plus: a number and a small one together.
func plus(n *big.Int, d int64) *big.Int { return new(big.Int).Add(n, big.NewInt(d)) }

// ends: the least and the greatest number of so many bits.
func ends(bits int, signed bool) (least, greatest *big.Int) {
	if signed {
		return new(big.Int).Neg(power(bits - 1)), plus(power(bits-1), -1)
	}
	return new(big.Int), plus(power(bits), -1)
}

// fits: whether it is a number of so many bits.
func fits(n *big.Int, bits int, signed bool) bool {
	least, greatest := ends(bits, signed)
	return n.Cmp(least) >= 0 && n.Cmp(greatest) <= 0
}

// word: a number's lowest 64 bits, in two's complement.
func word(n *big.Int) uint64 { return new(big.Int).Mod(n, power(64)).Uint64() }

// value: the number whose bits a word is.
func value(n uint64, signed bool) *big.Int {
	if signed {
		return big.NewInt(int64(n))
	}
	return new(big.Int).SetUint64(n)
}

// bytesFor: how many bytes a form has at most.
func bytesFor(bits int) int { return (bits + 6) / 7 }

// formOf: a number's form of just so many bytes, which may be more or fewer than the form allows.
func formOf(n *big.Int, length int) []byte {
	var b []byte
	for i := range length {
		seven := word(new(big.Int).Rsh(n, uint(7*i))) % 128
		if i < length-1 {
			seven += 128
		}
		b = append(b, byte(seven))
	}
	return b
}

// shortest: of how many bytes a number's shortest form is, by the ends of so many times seven bits.
func shortest(n *big.Int, signed bool) int {
	length := 1
	for !fits(n, 7*length, signed) {
		length++
	}
	return length
}

// formed: what the chapter's section 'The form' makes of the bytes from the first one on, word by word.
func formed(b []byte, bits int, signed bool) (n *big.Int, length int, e api.Errno) {
	if len(b) == 0 {
		return nil, 0, api.ErrEnd
	}
	c := big.NewInt(int64(b[0]))
	less := plus(c, -128)
	switch {
	case !signed && b[0] < 128 && c.Cmp(power(bits)) < 0:
		return c, 1, api.OK
	case signed && b[0] < 64 && c.Cmp(power(bits-1)) < 0:
		return c, 1, api.OK
	case signed && b[0] >= 64 && b[0] < 128 && less.Cmp(new(big.Int).Neg(power(bits-1))) >= 0:
		return less, 1, api.OK
	case b[0] >= 128 && bits > 7:
		m, rest, e := formed(b[1:], bits-7, signed)
		if e != api.OK {
			return nil, 0, e
		}
		return new(big.Int).Add(less, new(big.Int).Mul(m, big.NewInt(128))), rest + 1, api.OK
	}
	return nil, 0, api.ErrLeb
}

// expect holds what is read against what is wanted.
func (r reader) expect(t *testing.T, b []byte, at, bits int, n uint64, next int, e api.Errno) {
	t.Helper()
	if gotN, gotNext, gotE := r.read(b, at, bits); gotN != n || gotNext != next || gotE != e {
		t.Fatalf("%s of % x at %d, %d bits: %d, %d, error %d, not %d, %d, error %d", r.name, b, at, bits, gotN, gotNext, gotE, n, next, e)
	}
}

// expectNumber: it is that number, to the end of the bytes.
func (r reader) expectNumber(t *testing.T, b []byte, bits int, n *big.Int) {
	t.Helper()
	r.expect(t, b, 0, bits, word(n), len(b), api.OK)
}

// expectError: an error's other results are 0.
func (r reader) expectError(t *testing.T, b []byte, at, bits int, e api.Errno) {
	t.Helper()
	r.expect(t, b, at, bits, 0, 0, e)
}

// expectFormed holds what is read from the first byte on against the form.
func (r reader) expectFormed(t *testing.T, b []byte, bits int) {
	t.Helper()
	n, length, e := formed(b, bits, r.signed)
	if e != api.OK {
		r.expectError(t, b, 0, bits, e)
		return
	}
	r.expect(t, b, 0, bits, word(n), length, api.OK)
}

// numbers: of so many bits the ends, what lies beside them inside and outside, and those near to 0, in all that 65 bits hold; powers of two and what lies beside them.
func numbers(bits int, signed bool) []*big.Int {
	least, greatest := ends(bits, signed)
	var l []*big.Int
	for _, n := range []*big.Int{new(big.Int), least, greatest} {
		for d := int64(-3); d <= 3; d++ {
			l = append(l, plus(n, d))
		}
	}
	for i := range 65 {
		for d := int64(-1); d <= 1; d++ {
			n := plus(power(i), d)
			l = append(l, n, new(big.Int).Neg(n))
		}
	}
	return l
}

// wordsAt: words at the edges of each count of bits, of either sign, and some without a pattern.
func wordsAt() []uint64 {
	var l []uint64
	for i := range 64 {
		for d := uint64(0); d < 5; d++ {
			n := uint64(1)<<i + d - 2
			l = append(l, n, -n)
		}
	}
	for i, n := range words(2000) {
		l = append(l, n, n>>(i%64), uint64(int64(n)>>(i%64)))
	}
	return l
}

// The chapter's examples

func TestExamples(t *testing.T) {
	for bits := 20; bits <= 64; bits++ {
		readers[0].expect(t, []byte{229, 142, 38}, 0, bits, 624485, 3, api.OK)
	}
	readers[0].expectError(t, []byte{229, 142, 38}, 0, 19, api.ErrLeb)
	readers[1].expect(t, []byte{128, 127}, 0, 32, math.MaxUint64-127, 2, api.OK)
	if b := PutUint(624485); !bytes.Equal(b, []byte{229, 142, 38}) {
		t.Errorf("624485: %d", b)
	}
}

// P15.1, by hand

func TestUintByHand(t *testing.T) {
	for _, c := range []struct {
		b    string
		bits int
		n    uint64
	}{
		{"\x00", 1, 0},
		{"\x01", 1, 1},
		{"\x3f", 6, 63},
		{"\x40", 7, 64},
		{"\x7f", 7, 127},
		{"\x7f", 8, 127},
		{"\x7f", 64, 127},
		{"\x80\x00", 8, 0},
		{"\x80\x01", 8, 128},
		{"\xff\x01", 8, 255},
		{"\xff\x7f", 14, 16383},
		{"\x80\x80\x01", 15, 16384},
		{"\xac\x02", 32, 300},
		{"\xff\xff\xff\xff\x0f", 32, math.MaxUint32},
		{"\xff\xff\xff\xff\x1f", 33, 1<<33 - 1},
		{"\x80\x80\x80\x80\x00", 32, 0},
		{"\x80\x80\x80\x80\x80\x80\x80\x80\x40", 63, 1 << 62},
		{"\xff\xff\xff\xff\xff\xff\xff\xff\x7f", 63, 1<<63 - 1},
		{"\x80\x80\x80\x80\x80\x80\x80\x80\x80\x00", 64, 0},
		{"\x80\x80\x80\x80\x80\x80\x80\x80\x80\x01", 64, 1 << 63},
		{"\xff\xff\xff\xff\xff\xff\xff\xff\xff\x01", 64, math.MaxUint64},
	} {
		readers[0].expect(t, []byte(c.b), 0, c.bits, c.n, len(c.b), api.OK)
	}
}

func TestSintByHand(t *testing.T) {
	for _, c := range []struct {
		b    string
		bits int
		n    int64
	}{
		{"\x00", 1, 0},
		{"\x7f", 1, -1},
		{"\x01", 2, 1},
		{"\x7e", 2, -2},
		{"\x1f", 6, 31},
		{"\x60", 6, -32},
		{"\x3f", 7, 63},
		{"\x40", 7, -64},
		{"\x40", 8, -64},
		{"\xc0\x00", 8, 64},
		{"\xff\x00", 8, 127},
		{"\x80\x7f", 8, -128},
		{"\xbf\x7f", 8, -65},
		{"\xff\x7f", 8, -1},
		{"\xff\x3f", 14, 8191},
		{"\x80\x40", 14, -8192},
		{"\xc0\xbb\x78", 32, -123456},
		{"\xff\xff\xff\xff\x07", 32, math.MaxInt32},
		{"\x80\x80\x80\x80\x78", 32, math.MinInt32},
		{"\xff\xff\xff\xff\x0f", 33, math.MaxUint32},
		{"\x80\x80\x80\x80\x70", 33, -1 << 32},
		{"\xff\xff\xff\xff\xff\xff\xff\xff\x3f", 63, 1<<62 - 1},
		{"\x80\x80\x80\x80\x80\x80\x80\x80\x40", 63, -1 << 62},
		{"\xff\xff\xff\xff\xff\xff\xff\xff\xff\x00", 64, math.MaxInt64},
		{"\x80\x80\x80\x80\x80\x80\x80\x80\x80\x7f", 64, math.MinInt64},
		{"\xff\xff\xff\xff\xff\xff\xff\xff\xff\x7f", 64, -1},
	} {
		readers[1].expect(t, []byte(c.b), 0, c.bits, uint64(c.n), len(c.b), api.OK)
	}
}

// TestErrorsByHand: which error it is, at the edges of several bits.
func TestErrorsByHand(t *testing.T) {
	for _, c := range []struct {
		b    string
		bits int
		e    api.Errno
	}{
		{"", 1, api.ErrEnd},
		{"", 64, api.ErrEnd},
		{"\x02", 1, api.ErrLeb},
		{"\x80", 1, api.ErrLeb},
		{"\x80\x00", 1, api.ErrLeb},
		{"\x80", 6, api.ErrLeb},
		{"\x80", 7, api.ErrLeb},
		{"\x80\x00", 7, api.ErrLeb},
		{"\xff", 7, api.ErrLeb},
		{"\x80", 8, api.ErrEnd},
		{"\xff", 8, api.ErrEnd},
		{"\x80\x02", 8, api.ErrLeb},
		{"\x80\x80", 8, api.ErrLeb},
		{"\x80\x80", 14, api.ErrLeb},
		{"\x80\x80", 15, api.ErrEnd},
		{"\x80\x80\x80\x80", 32, api.ErrEnd},
		{"\x80\x80\x80\x80\x80", 32, api.ErrLeb},
		{"\x80\x80\x80\x80\x80\x00", 32, api.ErrLeb},
		{"\x80\x80\x80\x80\x80\x80\x80\x80\x80", 63, api.ErrLeb},
		{"\x80\x80\x80\x80\x80\x80\x80\x80\x80", 64, api.ErrEnd},
		{"\x80\x80\x80\x80\x80\x80\x80\x80\x80\x80", 64, api.ErrLeb},
		{"\x80\x80\x80\x80\x80\x80\x80\x80\x80\x80\x00", 64, api.ErrLeb},
		{"\x80\x80\x80\x80\x80\x80\x80\x80\x80\x02", 64, api.ErrLeb},
	} {
		for _, r := range readers {
			r.expectError(t, []byte(c.b), 0, c.bits, c.e)
		}
	}
	readers[0].expectError(t, []byte("\x40"), 0, 6, api.ErrLeb)
	readers[0].expectError(t, []byte("\x7f"), 0, 6, api.ErrLeb)
	readers[0].expectError(t, []byte("\xff\xff\xff\xff\x10"), 0, 32, api.ErrLeb)
	readers[1].expectError(t, []byte("\x20"), 0, 6, api.ErrLeb)
	readers[1].expectError(t, []byte("\x5f"), 0, 6, api.ErrLeb)
	readers[1].expectError(t, []byte("\xff\xff\xff\xff\x08"), 0, 32, api.ErrLeb)
	readers[1].expectError(t, []byte("\xff\xff\xff\xff\x0f"), 0, 32, api.ErrLeb)
	readers[1].expectError(t, []byte("\x80\x80\x80\x80\x77"), 0, 32, api.ErrLeb)
	readers[1].expectError(t, []byte("\xff\xff\xff\xff\xff\xff\xff\xff\xff\x01"), 0, 64, api.ErrLeb)
	readers[1].expectError(t, []byte("\x80\x80\x80\x80\x80\x80\x80\x80\x80\x7e"), 0, 64, api.ErrLeb)
}

// P15.1: the arguments

func TestNoBits(t *testing.T) {
	for _, r := range readers {
		for _, bits := range notBits {
			for _, b := range [][]byte{nil, {}, {0}, {1, 2}, {127}, {128}, {128, 0}, {128, 128}} {
				for at := -1; at <= len(b)+1; at++ {
					r.expectError(t, b, at, bits, api.ErrArg)
				}
			}
		}
	}
}

func TestNoPlace(t *testing.T) {
	long := make([]byte, 300)
	for _, r := range readers {
		for bits := 1; bits <= 64; bits++ {
			for _, b := range [][]byte{nil, {}, {0}, {1, 2}, {127}, {128}, {128, 128}, {128, 128, 128, 128, 128, 128, 128, 128, 128, 128, 128}, long, long[:17]} {
				for _, d := range []int{1, 2, 7, 1 << 20, 1 << 32, math.MaxInt - len(b)} {
					r.expectError(t, b, -d, bits, api.ErrArg)
					r.expectError(t, b, len(b)+d, bits, api.ErrArg)
				}
				r.expectError(t, b, math.MinInt, bits, api.ErrArg)
				r.expectError(t, b, len(b), bits, api.ErrEnd)
			}
		}
	}
}

// TestInTheMidst: only the bytes from at on count, and next is counted from the first one on.
func TestInTheMidst(t *testing.T) {
	b := []byte{255, 128, 229, 142, 38, 128, 127, 63, 128}
	for _, c := range []struct {
		r        reader
		at, bits int
		n        uint64
		next     int
		e        api.Errno
	}{
		{readers[0], 0, 32, 0, 0, api.ErrLeb},
		{readers[0], 0, 35, 0x7f | 0x65<<14 | 0x0e<<21 | 38<<28, 5, api.OK},
		{readers[0], 1, 32, 624485 << 7, 5, api.OK},
		{readers[0], 2, 32, 624485, 5, api.OK},
		{readers[0], 3, 32, 14 + 38<<7, 5, api.OK},
		{readers[0], 4, 32, 38, 5, api.OK},
		{readers[0], 5, 32, 127 << 7, 7, api.OK},
		{readers[0], 6, 7, 127, 7, api.OK},
		{readers[0], 7, 6, 63, 8, api.OK},
		{readers[0], 8, 8, 0, 0, api.ErrEnd},
		{readers[0], 8, 7, 0, 0, api.ErrLeb},
		{readers[0], 9, 7, 0, 0, api.ErrEnd},
		{readers[0], 10, 7, 0, 0, api.ErrArg},
		{readers[1], 5, 32, math.MaxUint64 - 127, 7, api.OK},
		{readers[1], 6, 1, math.MaxUint64, 7, api.OK},
		{readers[1], 7, 7, 63, 8, api.OK},
		{readers[1], 7, 6, 0, 0, api.ErrLeb},
		{readers[1], 8, 8, 0, 0, api.ErrEnd},
		{readers[1], 8, 7, 0, 0, api.ErrLeb},
		{readers[1], 9, 7, 0, 0, api.ErrEnd},
		{readers[1], 10, 7, 0, 0, api.ErrArg},
	} {
		c.r.expect(t, b, c.at, c.bits, c.n, c.next, c.e)
	}
}

// P15.1: the form

// TestOneByte: each byte alone, with each count of bits.
func TestOneByte(t *testing.T) {
	for _, r := range readers {
		for bits := 1; bits <= 64; bits++ {
			for c := range 256 {
				r.expectFormed(t, []byte{byte(c)}, bits)
			}
		}
	}
}

// TestTwoBytes: all pairs of bytes, up to bits that have room for a third one.
func TestTwoBytes(t *testing.T) {
	for _, r := range readers {
		for bits := 1; bits <= 16; bits++ {
			for c := range 1 << 16 {
				r.expectFormed(t, []byte{byte(c), byte(c >> 8)}, bits)
			}
		}
	}
}

// TestLastBytes: behind each count of bytes that others follow, each byte as the next one.
func TestLastBytes(t *testing.T) {
	for _, r := range readers {
		for bits := 1; bits <= 64; bits++ {
			for ahead := range 12 {
				for _, follow := range []byte{128, 170, 255} {
					b := bytes.Repeat([]byte{follow}, ahead)
					for c := range 256 {
						r.expectFormed(t, append(b, byte(c)), bits)
					}
				}
			}
		}
	}
}

// TestThreeBytes: bytes at the edges, three of them.
func TestThreeBytes(t *testing.T) {
	for _, r := range readers {
		for _, bits := range []int{1, 6, 7, 8, 13, 14, 15, 16, 20, 21, 22, 32, 64} {
			for _, c := range edges {
				for _, d := range edges {
					for _, e := range edges {
						r.expectFormed(t, []byte{c, d, e}, bits)
					}
				}
			}
		}
	}
}

// TestWithoutPattern: bytes without a pattern, most of which say that others follow.
func TestWithoutPattern(t *testing.T) {
	list := words(4000)
	for i := 0; i+1 < len(list); i += 2 {
		b := binary.LittleEndian.AppendUint64(nil, list[i])
		b = binary.LittleEndian.AppendUint64(b, list[i+1])
		for j := range list[i] % 12 {
			b[j] |= 128
		}
		for _, r := range readers {
			for bits := 1; bits <= 64; bits++ {
				r.expectFormed(t, b, bits)
			}
		}
	}
}

// TestEveryForm: of each count of bits each form of each number, from its shortest one to the longest that the bits allow; one byte more is too many, and a number that isn't of so many bits has none.
func TestEveryForm(t *testing.T) {
	for _, r := range readers {
		for bits := 1; bits <= 64; bits++ {
			for _, n := range numbers(bits, r.signed) {
				if n.Sign() < 0 && !r.signed {
					continue
				}
				for length := shortest(n, r.signed); length <= 11; length++ {
					b := formOf(n, length)
					if fits(n, bits, r.signed) && length <= bytesFor(bits) {
						r.expectNumber(t, b, bits, n)
					} else {
						r.expectError(t, b, 0, bits, api.ErrLeb)
					}
				}
			}
		}
	}
}

// TestEnds: of each count of bits the least and the greatest number, 0, 1, and minus one, and the first ones that aren't numbers of so many bits.
func TestEnds(t *testing.T) {
	for bits := 1; bits <= 64; bits++ {
		for _, r := range readers {
			least, greatest := ends(bits, r.signed)
			for _, n := range []*big.Int{least, greatest, new(big.Int)} {
				r.expectNumber(t, formOf(n, bytesFor(bits)), bits, n)
			}
			above := plus(greatest, 1)
			r.expectError(t, formOf(above, shortest(above, r.signed)), 0, bits, api.ErrLeb)
		}
		one, minusOne := big.NewInt(1), big.NewInt(-1)
		readers[0].expectNumber(t, []byte{1}, bits, one)
		readers[1].expectNumber(t, []byte{127}, bits, minusOne)
		readers[1].expectNumber(t, formOf(minusOne, bytesFor(bits)), bits, minusOne)
		if bits > 1 {
			readers[1].expectNumber(t, []byte{1}, bits, one)
		}
		least, _ := ends(bits, true)
		below := plus(least, -1)
		readers[1].expectError(t, formOf(below, shortest(below, true)), 0, bits, api.ErrLeb)
	}
}

// TestCutOff: a form that ends ahead of the number's end, at each place; and so too where other bytes lie behind the list's length in its memory.
func TestCutOff(t *testing.T) {
	for _, r := range readers {
		for bits := 1; bits <= 64; bits++ {
			for _, n := range numbers(bits, r.signed) {
				if !fits(n, bits, r.signed) {
					continue
				}
				whole := formOf(n, bytesFor(bits))
				for length := range whole {
					r.expectError(t, whole[:length], 0, bits, api.ErrEnd)
					r.expectError(t, whole[:length:length], 0, bits, api.ErrEnd)
					r.expectError(t, append([]byte{0, 128, 255}, whole[:length]...), 3, bits, api.ErrEnd)
				}
			}
		}
	}
}

// TestTooLong: rows of bytes that all say that others follow. The first of them that has no bits behind it fails, be it the last one there is or not; ahead of it the bytes end.
func TestTooLong(t *testing.T) {
	for _, r := range readers {
		for bits := 1; bits <= 64; bits++ {
			for _, c := range []byte{128, 129, 192, 255} {
				for length := range 100 {
					want := api.ErrEnd
					if length >= bytesFor(bits) {
						want = api.ErrLeb
					}
					b := bytes.Repeat([]byte{c}, length)
					r.expectError(t, b, 0, bits, want)
					r.expectError(t, append([]byte{1, 200}, b...), 2, bits, want)
				}
			}
		}
	}
}

// TestFirstByteThatFails: what lies behind it makes no difference.
func TestFirstByteThatFails(t *testing.T) {
	for _, r := range readers {
		for bits := 1; bits <= 64; bits++ {
			ahead := bytes.Repeat([]byte{128}, bytesFor(bits)-1)
			for c := range 256 {
				_, _, e := formed(append(ahead[:len(ahead):len(ahead)], byte(c)), bits, r.signed)
				if e == api.OK {
					continue
				}
				for _, behind := range []string{"", "\x00", "\x7f", "\x80", "\xff", "\x80\x00"} {
					b := append(ahead[:len(ahead):len(ahead)], byte(c))
					r.expectError(t, append(b, behind...), 0, bits, api.ErrLeb)
				}
			}
		}
	}
}

// P15.2

func TestPutByHand(t *testing.T) {
	for n, want := range map[uint64]string{
		0:              "\x00",
		1:              "\x01",
		63:             "\x3f",
		64:             "\x40",
		127:            "\x7f",
		128:            "\x80\x01",
		255:            "\xff\x01",
		300:            "\xac\x02",
		16383:          "\xff\x7f",
		16384:          "\x80\x80\x01",
		math.MaxUint32: "\xff\xff\xff\xff\x0f",
		1<<63 - 1:      "\xff\xff\xff\xff\xff\xff\xff\xff\x7f",
		1 << 63:        "\x80\x80\x80\x80\x80\x80\x80\x80\x80\x01",
		math.MaxUint64: "\xff\xff\xff\xff\xff\xff\xff\xff\xff\x01",
	} {
		if b := PutUint(n); string(b) != want {
			t.Errorf("PutUint of %d: % x, not % x", n, b, want)
		}
	}
	for n, want := range map[int64]string{
		0:             "\x00",
		1:             "\x01",
		-1:            "\x7f",
		63:            "\x3f",
		-63:           "\x41",
		64:            "\xc0\x00",
		-64:           "\x40",
		65:            "\xc1\x00",
		-65:           "\xbf\x7f",
		127:           "\xff\x00",
		128:           "\x80\x01",
		-128:          "\x80\x7f",
		-129:          "\xff\x7e",
		8191:          "\xff\x3f",
		8192:          "\x80\xc0\x00",
		-8192:         "\x80\x40",
		-8193:         "\xff\xbf\x7f",
		-123456:       "\xc0\xbb\x78",
		math.MaxInt32: "\xff\xff\xff\xff\x07",
		math.MinInt32: "\x80\x80\x80\x80\x78",
		1<<62 - 1:     "\xff\xff\xff\xff\xff\xff\xff\xff\x3f",
		1 << 62:       "\x80\x80\x80\x80\x80\x80\x80\x80\xc0\x00",
		-1 << 62:      "\x80\x80\x80\x80\x80\x80\x80\x80\x40",
		-1<<62 - 1:    "\xff\xff\xff\xff\xff\xff\xff\xff\xbf\x7f",
		math.MaxInt64: "\xff\xff\xff\xff\xff\xff\xff\xff\xff\x00",
		math.MinInt64: "\x80\x80\x80\x80\x80\x80\x80\x80\x80\x7f",
	} {
		if b := PutSint(uint64(n)); string(b) != want {
			t.Errorf("PutSint of %d: % x, not % x", n, b, want)
		}
	}
}

// TestPutShortest: what is put is the number's form of 64 bits, and there is none of fewer bytes.
func TestPutShortest(t *testing.T) {
	for _, r := range readers {
		for _, n := range wordsAt() {
			number := value(n, r.signed)
			want := formOf(number, shortest(number, r.signed))
			b := r.put(n)
			if !bytes.Equal(b, want) {
				t.Fatalf("%s, put of %d: % x, not % x", r.name, number, b, want)
			}
			if got, length, e := formed(b, 64, r.signed); e != api.OK || length != len(b) || got.Cmp(number) != 0 {
				t.Fatalf("%s, put of %d: % x isn't it", r.name, number, b)
			}
			for length := 1; length < len(b); length++ {
				if got, _, e := formed(formOf(number, length), 64, r.signed); e == api.OK && got.Cmp(number) == 0 {
					t.Fatalf("%s, put of %d: % x isn't the shortest", r.name, number, b)
				}
			}
		}
	}
}

// TestPutAgainstGo: Go's own unsigned form is the same.
func TestPutAgainstGo(t *testing.T) {
	for _, n := range wordsAt() {
		b := PutUint(n)
		if want := binary.AppendUvarint(nil, n); !bytes.Equal(b, want) {
			t.Fatalf("%d: % x, not % x", n, b, want)
		}
		if got, length := binary.Uvarint(b); got != n || length != len(b) {
			t.Fatalf("%d: % x is %d to Go", n, b, got)
		}
	}
}

// P15.3

// bitsOf: the fewest bits that a number has.
func bitsOf(n *big.Int, signed bool) int {
	bits := 1
	for !fits(n, bits, signed) {
		bits++
	}
	return bits
}

// TestReadAsItWas: with each count of bits that the number has, and with other bytes ahead of it and behind it; with fewer bits it is none.
func TestReadAsItWas(t *testing.T) {
	for _, r := range readers {
		for _, n := range wordsAt() {
			b := r.put(n)
			least := bitsOf(value(n, r.signed), r.signed)
			for bits := least; bits <= 64; bits++ {
				r.expect(t, b, 0, bits, n, len(b), api.OK)
			}
			for bits := 1; bits < least; bits++ {
				r.expectError(t, b, 0, bits, api.ErrLeb)
			}
			for _, ahead := range []string{"", "\x00", "\x7f", "\x80", "\xff\xff\xff", "\x80\x80\x80\x80\x80\x80\x80\x80\x80\x80\x80"} {
				for _, behind := range []string{"", "\x00", "\x01", "\x7f", "\x80", "\xff", "\xff\xff\xff\xff\xff\xff\xff\xff\xff\xff\xff"} {
					row := []byte(ahead + string(b) + behind)
					r.expect(t, row, len(ahead), least, n, len(ahead)+len(b), api.OK)
					r.expect(t, row, len(ahead), 64, n, len(ahead)+len(b), api.OK)
				}
			}
		}
	}
}

// TestInARow: numbers that are put behind each other are read one by one, each at the place that the one ahead of it tells.
func TestInARow(t *testing.T) {
	for _, r := range readers {
		var row []byte
		list := wordsAt()
		for _, n := range list {
			row = append(row, r.put(n)...)
		}
		at := 0
		for _, n := range list {
			r.expect(t, row, at, 64, n, at+len(r.put(n)), api.OK)
			at += len(r.put(n))
		}
		r.expectError(t, row, at, 64, api.ErrEnd)
	}
}

// TestOfSoManyBits: what is read, of whatever bytes, is a number of so many bits, and next is behind at least one byte and at most as many as the bits need.
func TestOfSoManyBits(t *testing.T) {
	var row []byte
	for i, n := range words(3000) {
		for range i % 11 {
			row = append(row, byte(n>>56)|128)
			n <<= 5
		}
		row = append(row, byte(n>>56))
	}
	for _, r := range readers {
		for at := range row {
			for bits := 1; bits <= 64; bits++ {
				n, next, e := r.read(row, at, bits)
				if e != api.OK {
					continue
				}
				if !fits(value(n, r.signed), bits, r.signed) {
					t.Fatalf("%s at %d, %d bits: %d", r.name, at, bits, n)
				}
				if length := next - at; length < 1 || length > bytesFor(bits) {
					t.Fatalf("%s at %d, %d bits: %d bytes", r.name, at, bits, length)
				}
			}
		}
	}
}

// DOC.md's rules

// TestHandedInStays: the bytes that are handed in, and those behind their length in their memory, stay as they were.
func TestHandedInStays(t *testing.T) {
	for _, r := range readers {
		for _, s := range []string{"", "\x00", "\x7f", "\x80", "\xe5\x8e\x26", "\x80\x7f\x01", "\xff\xff\xff\xff\xff\xff\xff\xff\xff\x01\x80", "\xff\xff\xff\xff\xff\xff\xff\xff\xff\xff\xff\xff"} {
			memory := append([]byte(s), "\x01\x80\xff\x55"...)
			was := string(memory)
			for length := range len(memory) + 1 {
				for _, bits := range []int{-1, 0, 1, 7, 8, 32, 64, 65} {
					for at := -1; at <= length+1; at++ {
						r.read(memory[:length], at, bits)
					}
				}
				if string(memory) != was {
					t.Fatalf("%s: % x were % x", r.name, memory, was)
				}
			}
		}
	}
}

// TestBehindTheLength: what lies behind a list's length in its memory isn't read.
func TestBehindTheLength(t *testing.T) {
	for _, r := range readers {
		memory := []byte{128, 128, 1, 128, 0}
		r.expectError(t, memory[:0], 0, 32, api.ErrEnd)
		r.expectError(t, memory[:1], 0, 32, api.ErrEnd)
		r.expectError(t, memory[:2], 0, 32, api.ErrEnd)
		r.expectError(t, memory[:2], 3, 32, api.ErrArg)
		r.expect(t, memory[:3], 0, 32, 1<<14, 3, api.OK)
		r.expectError(t, memory[:3], 3, 32, api.ErrEnd)
	}
}

// TestNewMemory: what is put is memory of its own, to the end of its spare room, each time.
func TestNewMemory(t *testing.T) {
	for _, r := range readers {
		for _, n := range []uint64{0, 1, 63, 64, 127, 128, 300, 1 << 32, 1 << 63, math.MaxUint64} {
			first := r.put(n)
			second := r.put(n)
			was := string(second)
			for i := range first[:cap(first)] {
				first[:cap(first)][i] ^= 0xff
			}
			if string(second) != was || string(r.put(n)) != was {
				t.Fatalf("%s, put of %d: % x is shared", r.name, n, second)
			}
		}
	}
}
