package wide

import (
	"math"
	"math/big"
	"testing"

	"trunnion/api"
)

const maxWord = math.MaxUint64

var maxWide = api.Wide{Hi: maxWord, Lo: maxWord}

// bigOf, wideOf: to package big and back; wideOf is modulo 2^128.
func bigOf(a api.Wide) *big.Int {
	n := new(big.Int).SetUint64(a.Hi)
	return n.Lsh(n, 64).Add(n, new(big.Int).SetUint64(a.Lo))
}

func wideOf(n *big.Int) api.Wide {
	two := new(big.Int).Lsh(big.NewInt(1), 128)
	m := new(big.Int).Mod(n, two)
	hi := new(big.Int).Rsh(m, 64)
	lo := new(big.Int).And(m, new(big.Int).SetUint64(maxWord))
	return api.Wide{Hi: hi.Uint64(), Lo: lo.Uint64()}
}

// wordSamples: edges of a word and some numbers without a pattern, the same at each run.
func wordSamples() []uint64 {
	l := []uint64{0, 1, 2, 3, 4, 5, 7, 10, maxWord, maxWord - 1, maxWord - 2, 1<<63 - 1, 1<<63 + 1, 1<<32 - 1, 1<<32 + 1}
	for i := 3; i < 64; i += 4 {
		l = append(l, 1<<i)
	}
	n := uint64(0x9e3779b97f4a7c15)
	for range 6 {
		n ^= n << 13
		n ^= n >> 7
		n ^= n << 17
		l = append(l, n)
	}
	return l
}

func wideSamples() []api.Wide {
	var l []api.Wide
	for _, hi := range wordSamples() {
		for _, lo := range wordSamples() {
			l = append(l, api.Wide{Hi: hi, Lo: lo})
		}
	}
	return l
}

// shifts: all that move something, and those far outside.
func shifts() []int {
	l := []int{math.MinInt, math.MinInt + 1, math.MinInt32, -129, -128, -65, -64, -63, -2, -1}
	for n := range 131 {
		l = append(l, n)
	}
	return append(l, 191, 192, 193, 255, 256, 257, 1<<31-1, 1<<31, 1<<32, 1<<32+1, math.MaxInt-1, math.MaxInt)
}

// P1.1

func TestOf(t *testing.T) {
	for _, n := range wordSamples() {
		if got := Of(n); got != (api.Wide{Lo: n}) {
			t.Errorf("Of(%d) = %v", n, got)
		}
	}
}

func TestAddAndSubByHand(t *testing.T) {
	one := Of(1)
	cases := []struct{ a, b, sum, difference api.Wide }{
		{Of(0), Of(0), Of(0), Of(0)},
		{Of(5), Of(3), Of(8), Of(2)},
		{Of(3), Of(5), Of(8), api.Wide{Hi: maxWord, Lo: maxWord - 1}},
		{Of(maxWord), one, api.Wide{Hi: 1}, Of(maxWord - 1)},
		{api.Wide{Hi: 1}, one, api.Wide{Hi: 1, Lo: 1}, Of(maxWord)},
		{maxWide, one, Of(0), api.Wide{Hi: maxWord, Lo: maxWord - 1}},
		{maxWide, maxWide, api.Wide{Hi: maxWord, Lo: maxWord - 1}, Of(0)},
		{Of(0), one, one, maxWide},
		{Of(0), maxWide, maxWide, one},
		{api.Wide{Hi: 1 << 63}, api.Wide{Hi: 1 << 63}, Of(0), Of(0)},
		{api.Wide{Hi: maxWord, Lo: 1 << 63}, api.Wide{Lo: 1 << 63}, Of(0), api.Wide{Hi: maxWord}},
	}
	for _, c := range cases {
		if got := Add(c.a, c.b); got != c.sum {
			t.Errorf("Add(%v, %v) = %v, not %v", c.a, c.b, got, c.sum)
		}
		if got := Sub(c.a, c.b); got != c.difference {
			t.Errorf("Sub(%v, %v) = %v, not %v", c.a, c.b, got, c.difference)
		}
	}
}

func TestAddSubCmpAgainstBig(t *testing.T) {
	l := wideSamples()
	for i, a := range l {
		x := bigOf(a)
		// Not each with each: from each on, all others in strides that don't divide their number.
		for j := i % 7; j < len(l); j += 7 {
			b := l[j]
			y := bigOf(b)
			if got, want := Add(a, b), wideOf(new(big.Int).Add(x, y)); got != want {
				t.Fatalf("Add(%v, %v) = %v, not %v", a, b, got, want)
			}
			if got, want := Sub(a, b), wideOf(new(big.Int).Sub(x, y)); got != want {
				t.Fatalf("Sub(%v, %v) = %v, not %v", a, b, got, want)
			}
			if got, want := Cmp(a, b), x.Cmp(y); got != want {
				t.Fatalf("Cmp(%v, %v) = %d, not %d", a, b, got, want)
			}
		}
	}
}

func TestMul(t *testing.T) {
	cases := []struct {
		a, b uint64
		want api.Wide
	}{
		{0, maxWord, Of(0)},
		{1, maxWord, Of(maxWord)},
		{6, 7, Of(42)},
		{1 << 63, 4, api.Wide{Hi: 2}},
		{1 << 32, 1 << 32, api.Wide{Hi: 1}},
		{maxWord, 2, api.Wide{Hi: 1, Lo: maxWord - 1}},
		{maxWord, maxWord, api.Wide{Hi: maxWord - 1, Lo: 1}},
	}
	for _, c := range cases {
		if got := Mul(c.a, c.b); got != c.want {
			t.Errorf("Mul(%d, %d) = %v, not %v", c.a, c.b, got, c.want)
		}
	}
	for _, a := range wordSamples() {
		for _, b := range wordSamples() {
			want := wideOf(new(big.Int).Mul(bigOf(Of(a)), bigOf(Of(b))))
			if got := Mul(a, b); got != want {
				t.Errorf("Mul(%d, %d) = %v, not %v", a, b, got, want)
			}
		}
	}
}

func TestCmpByHand(t *testing.T) {
	rising := []api.Wide{Of(0), Of(1), Of(1 << 63), Of(maxWord), {Hi: 1}, {Hi: 1, Lo: 1}, {Hi: 1, Lo: maxWord}, {Hi: 2}, {Hi: 1 << 63}, {Hi: maxWord}, maxWide}
	for i, a := range rising {
		for j, b := range rising {
			want := 0
			if i < j {
				want = -1
			} else if i > j {
				want = 1
			}
			if got := Cmp(a, b); got != want {
				t.Errorf("Cmp(%v, %v) = %d, not %d", a, b, got, want)
			}
		}
	}
}

// P1.2

func TestLen(t *testing.T) {
	if got := Len(Of(0)); got != 0 {
		t.Errorf("Len(0) = %d", got)
	}
	for n := range 128 {
		power := wideOf(new(big.Int).Lsh(big.NewInt(1), uint(n)))
		if got := Len(power); got != n+1 {
			t.Errorf("Len(2^%d) = %d", n, got)
		}
		if got := Len(Sub(power, Of(1))); got != n {
			t.Errorf("Len(2^%d - 1) = %d", n, got)
		}
	}
	if got := Len(maxWide); got != 128 {
		t.Errorf("Len(2^128 - 1) = %d", got)
	}
	for _, a := range wideSamples() {
		if got, want := Len(a), bigOf(a).BitLen(); got != want {
			t.Errorf("Len(%v) = %d, not %d", a, got, want)
		}
	}
}

func TestShiftsByHand(t *testing.T) {
	a := api.Wide{Hi: 5, Lo: 1<<63 + 1}
	cases := []struct {
		n           int
		left, right api.Wide
		lost        bool
	}{
		{math.MinInt, a, a, false},
		{-1, a, a, false},
		{0, a, a, false},
		{1, api.Wide{Hi: 11, Lo: 2}, api.Wide{Hi: 2, Lo: 3 << 62}, true},
		{63, api.Wide{Hi: 3 << 62, Lo: 1 << 63}, Of(11), true},
		{64, api.Wide{Hi: 1<<63 + 1}, Of(5), true},
		{65, api.Wide{Hi: 2}, Of(2), true},
		{127, api.Wide{Hi: 1 << 63}, Of(0), true},
		{128, Of(0), Of(0), true},
		{129, Of(0), Of(0), true},
		{math.MaxInt, Of(0), Of(0), true},
	}
	for _, c := range cases {
		if got := Left(a, c.n); got != c.left {
			t.Errorf("Left by %d = %v, not %v", c.n, got, c.left)
		}
		if got, lost := Right(a, c.n); got != c.right || lost != c.lost {
			t.Errorf("Right by %d = %v, %v, not %v, %v", c.n, got, lost, c.right, c.lost)
		}
	}
}

func TestRightTellsWhatIsLost(t *testing.T) {
	cases := []struct {
		a    api.Wide
		n    int
		want api.Wide
		lost bool
	}{
		{Of(5), 1, Of(2), true},
		{Of(4), 1, Of(2), false},
		{Of(4), 2, Of(1), false},
		{Of(4), 3, Of(0), true},
		{api.Wide{Hi: 6}, 64, Of(6), false},
		{api.Wide{Hi: 6}, 65, Of(3), false},
		{api.Wide{Hi: 6}, 66, Of(1), true},
		{api.Wide{Hi: 6, Lo: 1}, 65, Of(3), true},
		{api.Wide{Hi: 6, Lo: 1 << 63}, 64, Of(6), true},
		{api.Wide{Hi: 1 << 63}, 127, Of(1), false},
		{api.Wide{Hi: 1 << 63}, 128, Of(0), true},
		{api.Wide{Hi: 1 << 63, Lo: 1}, 127, Of(1), true},
		{Of(0), 1, Of(0), false},
		{Of(0), 128, Of(0), false},
		{Of(0), math.MaxInt, Of(0), false},
		{Of(1), math.MaxInt, Of(0), true},
		{Of(5), -1, Of(5), false},
		{maxWide, math.MinInt, maxWide, false},
	}
	for _, c := range cases {
		if got, lost := Right(c.a, c.n); got != c.want || lost != c.lost {
			t.Errorf("Right(%v, %d) = %v, %v, not %v, %v", c.a, c.n, got, lost, c.want, c.lost)
		}
	}
}

func TestShiftsAgainstBig(t *testing.T) {
	for _, a := range wideSamples() {
		x := bigOf(a)
		for _, n := range shifts() {
			by := uint(min(max(n, 0), 200)) // beyond 128 nothing changes any more
			if got, want := Left(a, n), wideOf(new(big.Int).Lsh(x, by)); got != want {
				t.Fatalf("Left(%v, %d) = %v, not %v", a, n, got, want)
			}
			down := new(big.Int).Rsh(x, by)
			lost := new(big.Int).Lsh(down, by).Cmp(x) != 0
			if got, l := Right(a, n); got != wideOf(down) || l != lost {
				t.Fatalf("Right(%v, %d) = %v, %v, not %v, %v", a, n, got, l, wideOf(down), lost)
			}
		}
	}
}

// P1.3

func TestDivByNought(t *testing.T) {
	for _, a := range []api.Wide{Of(0), Of(7), {Hi: 7, Lo: 3}, maxWide} {
		if q, rest, e := Div(a, 0); q != Of(0) || rest != 0 || e != api.ErrZero {
			t.Errorf("Div(%v, 0) = %v, %d, %d", a, q, rest, e)
		}
	}
}

func TestDivByHand(t *testing.T) {
	cases := []struct {
		a    api.Wide
		b    uint64
		q    api.Wide
		rest uint64
	}{
		{Of(0), 1, Of(0), 0},
		{Of(0), maxWord, Of(0), 0},
		{Of(7), 2, Of(3), 1},
		{Of(2), 7, Of(0), 2},
		{maxWide, 1, maxWide, 0},
		{api.Wide{Hi: 7, Lo: 3}, 2, api.Wide{Hi: 3, Lo: 1<<63 + 1}, 1},
		{api.Wide{Hi: 1}, maxWord, Of(1), 1},
		{maxWide, maxWord, api.Wide{Hi: 1, Lo: 1}, 0},
		{api.Wide{Hi: maxWord - 1, Lo: maxWord}, maxWord, Of(maxWord), maxWord - 1},
		{maxWide, 1 << 63, api.Wide{Hi: 1, Lo: maxWord}, 1<<63 - 1},
	}
	for _, c := range cases {
		if q, rest, e := Div(c.a, c.b); q != c.q || rest != c.rest || e != api.OK {
			t.Errorf("Div(%v, %d) = %v, %d, %d, not %v, %d", c.a, c.b, q, rest, e, c.q, c.rest)
		}
	}
}

func TestDivAgainstBig(t *testing.T) {
	for _, a := range wideSamples() {
		for _, b := range wordSamples() {
			if b == 0 {
				continue
			}
			want, left := new(big.Int).QuoRem(bigOf(a), bigOf(Of(b)), new(big.Int))
			if q, rest, e := Div(a, b); q != wideOf(want) || rest != left.Uint64() || e != api.OK {
				t.Fatalf("Div(%v, %d) = %v, %d, %d, not %v, %v", a, b, q, rest, e, want, left)
			}
		}
	}
}

func TestRootByHand(t *testing.T) {
	cases := []struct {
		a    api.Wide
		r    uint64
		rest bool
	}{
		{Of(0), 0, false},
		{Of(1), 1, false},
		{Of(2), 1, true},
		{Of(3), 1, true},
		{Of(4), 2, false},
		{Of(maxWord), 1<<32 - 1, true},
		{api.Wide{Hi: 1}, 1 << 32, false},
		{api.Wide{Hi: 1, Lo: 1}, 1 << 32, true},
		{api.Wide{Hi: 1 << 62}, 1 << 63, false},
		{api.Wide{Hi: 1<<62 - 1, Lo: maxWord}, 1<<63 - 1, true},
		{api.Wide{Hi: maxWord - 1, Lo: 1}, maxWord, false},
		{api.Wide{Hi: maxWord - 1, Lo: 0}, maxWord - 1, true},
		{maxWide, maxWord, true},
	}
	for _, c := range cases {
		if r, rest := Root(c.a); r != c.r || rest != c.rest {
			t.Errorf("Root(%v) = %d, %v, not %d, %v", c.a, r, rest, c.r, c.rest)
		}
	}
}

func TestRootOfSquaresAndTheirNeighbours(t *testing.T) {
	for _, n := range wordSamples() {
		if n < 2 { // 0 and 1 have neighbours that are squares
			continue
		}
		square := Mul(n, n)
		if r, rest := Root(square); r != n || rest {
			t.Errorf("Root(%d squared) = %d, %v", n, r, rest)
		}
		if r, rest := Root(Sub(square, Of(1))); r != n-1 || !rest {
			t.Errorf("Root(%d squared - 1) = %d, %v", n, r, rest)
		}
		if r, rest := Root(Add(square, Of(1))); r != n || !rest {
			t.Errorf("Root(%d squared + 1) = %d, %v", n, r, rest)
		}
	}
}

func TestRootAgainstBig(t *testing.T) {
	for _, a := range wideSamples() {
		want := new(big.Int).Sqrt(bigOf(a))
		left := new(big.Int).Mul(want, want).Cmp(bigOf(a)) != 0
		if r, rest := Root(a); r != want.Uint64() || rest != left {
			t.Errorf("Root(%v) = %d, %v, not %v, %v", a, r, rest, want, left)
		}
	}
}

// P1.4

func TestQuotientTimesDivisorAndRest(t *testing.T) {
	for _, a := range wideSamples() {
		for _, b := range wordSamples() {
			if b == 0 {
				continue
			}
			q, rest, e := Div(a, b)
			if e != api.OK || rest >= b {
				t.Fatalf("Div(%v, %d): rest %d, error %d", a, b, rest, e)
			}
			upper := Mul(q.Hi, b)
			if upper.Hi != 0 {
				t.Fatalf("Div(%v, %d): the quotient %v is too great", a, b, q)
			}
			if back := Add(Add(Left(upper, 64), Mul(q.Lo, b)), Of(rest)); back != a {
				t.Fatalf("Div(%v, %d): %v times it and %d is %v", a, b, q, rest, back)
			}
		}
	}
}

func TestShiftedLeftAndBack(t *testing.T) {
	for _, a := range wideSamples() {
		for _, n := range shifts() {
			if n >= 0 && n > 128-Len(a) && a != Of(0) {
				continue // something is lost
			}
			if back, lost := Right(Left(a, n), n); back != a || lost {
				t.Fatalf("%v left by %d and right again is %v, %v", a, n, back, lost)
			}
		}
	}
}
