package utf

import (
	"bytes"
	"math"
	"testing"
	"unicode/utf8"
)

// ends: the first and the last character of each number of bytes, and those beside the numbers that are none.
var ends = []rune{0, 127, 128, 2047, 2048, 55295, 57344, 65535, 65536, 1114111}

// others: characters between these, the one that Go takes for what is none among them.
var others = []rune{1, 'a', 126, 129, 233, 2046, 2049, 4095, 4096, 8364, 53247, 53248, 55294, 57345, 65279, 65532, 65533, 65534, 65537, 128512, 262143, 262144, 1048575, 1048576, 1114110}

// none: numbers that are no characters, beside those that are and far away.
var none = []rune{-1, -2, -127, -128, -129, -65533, -65536, -1114111, -1114112, 55296, 55297, 56319, 56320, 56321, 57342, 57343, 1114112, 1114113, 1179647, 1179648, 2097151, 2097152, 1 << 24, 1 << 30, math.MaxInt32 - 1, math.MaxInt32, math.MinInt32, math.MinInt32 + 1, math.MinInt32 + 65, math.MinInt32 + 65533}

// broken: bytes that no character begins with, or that a character begins with that isn't there to its end.
var broken = []string{
	"\x80", "\x81", "\x8f", "\x90", "\x9f", "\xa0", "\xbe", "\xbf", // a later byte, and nothing ahead of it
	"\x80\x80", "\xbf\xbf\xbf", "\x80\x80\x80\x80", "\xbf\xbd",
	"\xc0", "\xc1", "\xf5", "\xf6", "\xf7", "\xf8", "\xfb", "\xfc", "\xfd", "\xfe", "\xff",
	"\xf5\x80\x80\x80", "\xf7\xbf\xbf\xbf", "\xf8\x88\x80\x80\x80", "\xfc\x84\x80\x80\x80\x80", "\xff\xff\xff\xff",
	"\xc0\x80", "\xc0\xaf", "\xc0\xbf", "\xc1\x80", "\xc1\xbf", // more bytes than the number needs
	"\xe0\x80\x80", "\xe0\x80\xbf", "\xe0\x81\xbf", "\xe0\x82\x80", "\xe0\x9f\xbf",
	"\xf0\x80\x80\x80", "\xf0\x80\x81\xbf", "\xf0\x80\x9f\xbf", "\xf0\x80\xa0\x80", "\xf0\x82\x82\xac", "\xf0\x8f\xbf\xbf", "\xf0\x8f\xbf\xbd",
	"\xed\xa0\x80", "\xed\xa0\x81", "\xed\xaf\xbf", "\xed\xb0\x80", "\xed\xbf\xbe", "\xed\xbf\xbf", // numbers from 55296 to 57343
	"\xed\xa0\x80\xed\xb0\x80", "\xed\xaf\xbf\xed\xbf\xbf",
	"\xf4\x90\x80\x80", "\xf4\x90\x80\x81", "\xf4\xbf\xbf\xbf", // numbers above 1114111
	"\xc2", "\xdf", "\xe0", "\xe0\xa0", "\xe2", "\xe2\x82", "\xed\x9f", "\xef", "\xef\xbf", "\xf0", "\xf0\x90", "\xf0\x90\x80", "\xf4\x8f\xbf", // cut off
	"\xc2\x7f", "\xc2\xc0", "\xc2a", "\xdf\xff", "\xc3\xe9", // a later byte that is none
	"\xe2\x82\x7f", "\xe2\x82\xc0", "\xe2\x7f\xac", "\xe2\xc0\xac", "\xe2a\xac", "\xef\xbf=", "\xef\xbf\xfd",
	"\xf0\x90\x80\x7f", "\xf0\x90\x80\xc0", "\xf0\x90\x7f\x80", "\xf0\x90\xc0\x80", "\xf0\x7f\x80\x80", "\xf0\xd0\x80\x80",
}

// isCharacter: the chapter's bounds.
func isCharacter(c int64) bool {
	return c >= 0 && c <= 1114111 && !(c >= 55296 && c <= 57343)
}

// leads: what a first byte of so many has beside the number's bits.
var leads = [5]int64{0, 0, 192, 224, 240}

// formOf: a number's bytes in just so many, by the chapter's section 'The form', whether the number is a character, and of so many bytes, or not.
func formOf(c int64, length int) string {
	b := make([]byte, length)
	for i := length - 1; i > 0; i-- {
		b[i] = byte(128 + c%64)
		c /= 64
	}
	b[0] = byte(leads[length] + c)
	return string(b)
}

// form: a character's bytes, by the form.
func form(c int64) string {
	switch {
	case c < 128:
		return formOf(c, 1)
	case c < 2048:
		return formOf(c, 2)
	case c < 65536:
		return formOf(c, 3)
	}
	return formOf(c, 4)
}

// told: the character whose bytes b begins with, and how many these are; 0, if there is none. A number is only guessed here: it is it if it is a character, and its form's bytes are the ones that are there.
func told(b string) (c int64, length int) {
	for length := 1; length <= min(4, len(b)); length++ {
		c := int64(b[0]) - leads[length]
		for _, later := range []byte(b[1:length]) {
			c = c*64 + int64(later) - 128
		}
		if isCharacter(c) && form(c) == b[:length] {
			return c, length
		}
	}
	return 0, 0
}

// counted: how many characters b is, by what is told one by one.
func counted(b string) (n int, ok bool) {
	for b != "" {
		_, length := told(b)
		if length == 0 {
			return 0, false
		}
		b = b[length:]
		n++
	}
	return n, true
}

// expectNext holds what stands at a place against what is wanted.
func expectNext(t *testing.T, b []byte, at int, c rune, next int, ok bool) {
	t.Helper()
	if gotC, gotNext, gotOk := Next(b, at); gotC != c || gotNext != next || gotOk != ok {
		t.Fatalf("Next of % x at %d: %d, %d, %t, not %d, %d, %t", b, at, gotC, gotNext, gotOk, c, next, ok)
	}
}

// expectCount holds what Count and Valid answer against what is wanted.
func expectCount(t *testing.T, b []byte, n int, ok bool) {
	t.Helper()
	if gotN, gotOk := Count(b); gotN != n || gotOk != ok {
		t.Fatalf("Count of % x: %d, %t, not %d, %t", b, gotN, gotOk, n, ok)
	}
	if got := Valid(b); got != ok {
		t.Fatalf("Valid of % x: %t", b, got)
	}
}

// expectForm holds all that is told of bytes, at each place, against the form.
func expectForm(t *testing.T, s string) {
	t.Helper()
	b := []byte(s)
	n, ok := counted(s)
	expectCount(t, b, n, ok)
	for at := range len(s) + 1 {
		c, length := told(s[at:])
		if length == 0 {
			expectNext(t, b, at, 0, 0, false)
		} else {
			expectNext(t, b, at, rune(c), at+length, true)
		}
	}
}

// put: a character's bytes, which it must have.
func put(t *testing.T, c rune) []byte {
	t.Helper()
	b, ok := Put(c)
	if !ok || len(b) == 0 {
		t.Fatalf("Put of %d: % x, %t", c, b, ok)
	}
	return b
}

// puts: names of characters one behind the other.
func puts(t *testing.T, characters ...rune) string {
	t.Helper()
	var b []byte
	for _, c := range characters {
		b = append(b, put(t, c)...)
	}
	return string(b)
}

// characters: those at the ends, and others.
func characters() []rune {
	return append(append([]rune(nil), ends...), others...)
}

// words: numbers of 64 bits without a pattern, the same at each run.
func words(n int) []uint64 {
	l := make([]uint64, n)
	x := uint64(0x9e3779b97f4a7c15)
	for i := range l {
		x ^= x << 13
		x ^= x >> 7
		x ^= x << 17
		l[i] = x
	}
	return l
}

// The chapter's examples

func TestExamples(t *testing.T) {
	euro := []byte{226, 130, 172}
	expectNext(t, euro, 0, 8364, 3, true)
	expectCount(t, euro, 1, true)
	if b, ok := Put(8364); !ok || !bytes.Equal(b, euro) {
		t.Errorf("8364: %d, %t", b, ok)
	}
	expectNext(t, []byte{192, 128}, 0, 0, 0, false)
	expectCount(t, []byte{192, 128}, 0, false)
}

// P16.2, and of each character what P16.1 tells of it

// byHand: characters and their bytes, written out.
var byHand = []struct {
	c rune
	b string
}{
	{0, "\x00"},
	{1, "\x01"},
	{'a', "a"},
	{126, "\x7e"},
	{127, "\x7f"},
	{128, "\xc2\x80"},
	{129, "\xc2\x81"},
	{191, "\xc2\xbf"},
	{192, "\xc3\x80"},
	{233, "\xc3\xa9"},
	{2046, "\xdf\xbe"},
	{2047, "\xdf\xbf"},
	{2048, "\xe0\xa0\x80"},
	{2049, "\xe0\xa0\x81"},
	{4095, "\xe0\xbf\xbf"},
	{4096, "\xe1\x80\x80"},
	{8364, "\xe2\x82\xac"},
	{53247, "\xec\xbf\xbf"},
	{53248, "\xed\x80\x80"},
	{55294, "\xed\x9f\xbe"},
	{55295, "\xed\x9f\xbf"},
	{57344, "\xee\x80\x80"},
	{57345, "\xee\x80\x81"},
	{65279, "\xef\xbb\xbf"},
	{65532, "\xef\xbf\xbc"},
	{65533, "\xef\xbf\xbd"},
	{65534, "\xef\xbf\xbe"},
	{65535, "\xef\xbf\xbf"},
	{65536, "\xf0\x90\x80\x80"},
	{65537, "\xf0\x90\x80\x81"},
	{128512, "\xf0\x9f\x98\x80"},
	{262143, "\xf0\xbf\xbf\xbf"},
	{262144, "\xf1\x80\x80\x80"},
	{1048575, "\xf3\xbf\xbf\xbf"},
	{1048576, "\xf4\x80\x80\x80"},
	{1114110, "\xf4\x8f\xbf\xbe"},
	{1114111, "\xf4\x8f\xbf\xbf"},
}

func TestByHand(t *testing.T) {
	for _, w := range byHand {
		if b, ok := Put(w.c); !ok || string(b) != w.b {
			t.Errorf("Put of %d: % x, %t, not % x", w.c, b, ok, w.b)
		}
		expectNext(t, []byte(w.b), 0, w.c, len(w.b), true)
		expectCount(t, []byte(w.b), 1, true)
	}
}

// expectNone: nothing is put.
func expectNone(t *testing.T, c rune) {
	t.Helper()
	if b, ok := Put(c); ok || len(b) != 0 {
		t.Fatalf("Put of %d: % x, %t", c, b, ok)
	}
}

func TestPutNone(t *testing.T) {
	for _, c := range none {
		expectNone(t, c)
	}
	for c := rune(55296); c <= 57343; c++ {
		expectNone(t, c)
	}
	for i := range rune(1 << 17) {
		expectNone(t, -1-i)
		expectNone(t, 1114112+i)
		expectNone(t, math.MinInt32+i)
		expectNone(t, math.MaxInt32-i)
	}
	for _, n := range words(100000) {
		if c := rune(n); !isCharacter(int64(c)) {
			expectNone(t, c)
		}
	}
}

// TestEach: each number that some byte more or less could make a character, against the form: what is put, and that it is told as it was.
func TestEach(t *testing.T) {
	n := 0
	for c := int64(-100); c < 1<<21+100; c++ {
		b, ok := Put(rune(c))
		if ok != isCharacter(c) {
			t.Fatalf("Put of %d: %t", c, ok)
		}
		if !ok {
			continue
		}
		n++
		if string(b) != form(c) {
			t.Fatalf("Put of %d: % x, not % x", c, b, form(c))
		}
		expectNext(t, b, 0, rune(c), len(b), true)
		expectCount(t, b, 1, true)
	}
	if n != 1114112-2048 {
		t.Errorf("%d characters", n)
	}
}

// P16.1: what is no character

func TestNoBytes(t *testing.T) {
	for _, b := range [][]byte{nil, {}, []byte("abc")[:0]} {
		expectCount(t, b, 0, true)
		expectNext(t, b, 0, 0, 0, false)
		expectNext(t, b, 1, 0, 0, false)
		expectNext(t, b, -1, 0, 0, false)
	}
}

func TestEachByteAlone(t *testing.T) {
	for i := range 256 {
		b := []byte{byte(i)}
		if i < 128 {
			expectNext(t, b, 0, rune(i), 1, true)
			expectCount(t, b, 1, true)
		} else {
			expectNext(t, b, 0, 0, 0, false)
			expectCount(t, b, 0, false)
		}
	}
}

// TestBroken: alone, at the beginning, in the midst and at the end of others, of one byte to four.
func TestBroken(t *testing.T) {
	pieces := append([]string{"", "abc", "a\u00e9\u20ac\U0001f600"}, puts(t, ends...))
	for _, c := range characters() {
		pieces = append(pieces, string(c))
	}
	for _, s := range broken {
		expectNext(t, []byte(s), 0, 0, 0, false)
		for _, ahead := range pieces {
			for _, behind := range pieces {
				b := []byte(ahead + s + behind)
				expectNext(t, b, len(ahead), 0, 0, false)
				expectCount(t, b, 0, false)
			}
			expectForm(t, ahead+s+ahead)
		}
	}
}

// TestTooManyBytes: a number in more bytes than it needs is no character, nor is what isn't a character in as many as it would need.
func TestTooManyBytes(t *testing.T) {
	for length := 2; length <= 4; length++ {
		for c := int64(0); len(form(c)) < length; c++ {
			s := formOf(c, length)
			expectNext(t, []byte(s), 0, 0, 0, false)
			expectCount(t, []byte(s), 0, false)
		}
	}
	for c := int64(55296); c <= 57343; c++ {
		expectNext(t, []byte(form(c)), 0, 0, 0, false)
		expectCount(t, []byte(form(c)), 0, false)
		expectNext(t, []byte(formOf(c, 4)), 0, 0, 0, false)
		expectCount(t, []byte(formOf(c, 4)), 0, false)
	}
	for c := int64(1114112); c < 1<<21; c += 7 {
		expectNext(t, []byte(form(c)), 0, 0, 0, false)
		expectCount(t, []byte(form(c)), 0, false)
	}
}

// TestCutOff: behind each of a character's bytes, with nothing, or with another character, behind that.
func TestCutOff(t *testing.T) {
	for _, c := range characters() {
		whole := puts(t, c)
		for length := 1; length < len(whole); length++ {
			cut := whole[:length]
			expectNext(t, []byte(cut), 0, 0, 0, false)
			for _, d := range characters() {
				other := puts(t, d)
				for _, s := range []string{cut, cut + other, other + cut, other + cut + other, cut + cut, cut + whole, other + cut + whole} {
					expectCount(t, []byte(s), 0, false)
					expectForm(t, s)
				}
			}
		}
	}
}

// TestLaterBytes: each byte in the place of each of a character's later ones.
func TestLaterBytes(t *testing.T) {
	for _, c := range characters() {
		whole := puts(t, c)
		for i := 1; i < len(whole); i++ {
			for other := range 256 {
				b := []byte(whole)
				b[i] = byte(other)
				expectForm(t, string(b))
				expectForm(t, "a"+string(b)+"\u00e9")
				if other < 128 || other > 191 {
					expectNext(t, b, 0, 0, 0, false)
					expectCount(t, b, 0, false)
				}
			}
		}
	}
}

// TestItself: 65533, which Go has for what is no character, is one itself, among others and among what is none.
func TestItself(t *testing.T) {
	itself := "\xef\xbf\xbd"
	expectNext(t, []byte(itself), 0, 65533, 3, true)
	expectNext(t, []byte("\xff"+itself+"\xff"), 1, 65533, 4, true)
	expectCount(t, []byte(itself), 1, true)
	expectCount(t, []byte(itself+itself+itself), 3, true)
	for _, s := range broken {
		for _, b := range []string{s + itself, itself + s, itself + s + itself, s + itself + s, itself + itself + s, s + s + s, s + s + s + itself} {
			expectCount(t, []byte(b), 0, false)
			expectForm(t, b)
		}
		expectNext(t, []byte(itself+s), 0, 65533, 3, true)
		expectNext(t, []byte(s+itself), len(s), 65533, len(s)+3, true)
	}
}

// TestPlaces: a place below 0, or behind the end, has no character, whatever the bytes are; nor has the end, or the midst of a character.
func TestPlaces(t *testing.T) {
	for _, s := range []string{"", "a", "abc", "\u00e9", "\u20ac", "\ufffd", "\U0001f600", "\x00", "\xff", "\xff\xff\xff", "a\u00e9\u20ac\U0001f600z"} {
		b := []byte(s)
		for _, d := range []int{1, 2, 3, 4, 5, 100, math.MaxInt32, math.MaxInt32 + 1, 1 << 32, 1<<32 + 1, math.MaxInt - len(b)} {
			expectNext(t, b, -d, 0, 0, false)
			expectNext(t, b, len(b)+d, 0, 0, false)
		}
		for _, at := range []int{math.MinInt, math.MinInt + 1, math.MaxInt, math.MaxInt - 1, math.MaxInt - 2, math.MaxInt - 3, len(b)} {
			expectNext(t, b, at, 0, 0, false)
		}
	}
	b := []byte("a\u00e9\u20ac\U0001f600z")
	for _, w := range []struct {
		at   int
		c    rune
		next int
		ok   bool
	}{
		{0, 'a', 1, true},
		{1, 0xe9, 3, true},
		{2, 0, 0, false},
		{3, 0x20ac, 6, true},
		{4, 0, 0, false},
		{5, 0, 0, false},
		{6, 0x1f600, 10, true},
		{7, 0, 0, false},
		{8, 0, 0, false},
		{9, 0, 0, false},
		{10, 'z', 11, true},
		{11, 0, 0, false},
		{12, 0, 0, false},
	} {
		expectNext(t, b, w.at, w.c, w.next, w.ok)
	}
}

// TestOnlyWhatStandsThere: bytes ahead of a place and behind a character, whatever they are, change nothing of what stands there.
func TestOnlyWhatStandsThere(t *testing.T) {
	around := append([]string{"", "a", "\u00e9", "\ufffd", "\U0001f600", "\xbf\xbf\xbf\xbf"}, broken...)
	for _, c := range characters() {
		whole := puts(t, c)
		for _, ahead := range around {
			for _, behind := range around {
				expectNext(t, []byte(ahead+whole+behind), len(ahead), c, len(ahead)+len(whole), true)
			}
		}
	}
}

// P16.1, against the form and against Go

func TestAllOfTwoBytes(t *testing.T) {
	for i := range 1 << 16 {
		expectForm(t, string([]byte{byte(i >> 8), byte(i)}))
	}
}

// edges: bytes at and beside those where the form changes.
var edges = []byte{0, 1, 'a', 126, 127, 128, 129, 130, 142, 143, 144, 145, 158, 159, 160, 161, 189, 190, 191, 192, 193, 194, 195, 222, 223, 224, 225, 236, 237, 238, 239, 240, 241, 243, 244, 245, 246, 247, 248, 254, 255}

func TestEdgesOfThreeBytes(t *testing.T) {
	for _, x := range edges {
		for _, y := range edges {
			for _, z := range edges {
				expectForm(t, string([]byte{x, y, z}))
			}
		}
	}
}

// expectGo holds what is told against what Go's package says.
func expectGo(t *testing.T, b []byte) {
	t.Helper()
	if valid := utf8.Valid(b); valid {
		expectCount(t, b, utf8.RuneCount(b), true)
	} else {
		expectCount(t, b, 0, false)
	}
	if c, width := utf8.DecodeRune(b); c == utf8.RuneError && width < 2 {
		expectNext(t, b, 0, 0, 0, false)
	} else {
		expectNext(t, b, 0, c, width, true)
	}
}

// TestAgainstGo: all of three bytes that begins as three or four do, and, at the edges, of four and five.
func TestAgainstGo(t *testing.T) {
	for i := 223 << 16; i < 246<<16; i++ {
		expectGo(t, []byte{byte(i >> 16), byte(i >> 8), byte(i)})
	}
	for x := 239; x < 246; x++ {
		for _, y := range edges {
			for _, z := range edges {
				for _, w := range edges {
					expectGo(t, []byte{byte(x), y, z, w})
					expectGo(t, []byte{byte(x), y, z, w, 128})
				}
			}
		}
	}
}

// TestRows: rows without a pattern, most of them of characters with at most one fault.
func TestRows(t *testing.T) {
	list := characters()
	for i, n := range words(6000) {
		s := ""
		for range i % 23 {
			s += string(list[n%uint64(len(list))])
			n = n*0x5851f42d4c957f2d + 0x14057b7ef767814f
			n ^= n >> 33
		}
		expectForm(t, s)
		if s == "" {
			continue
		}
		b := []byte(s)
		b[n%uint64(len(b))] = byte(n >> 32)
		expectForm(t, string(b))
		expectForm(t, s[n%uint64(len(s)):])
		expectForm(t, s[:n%uint64(len(s))])
	}
}

// P16.3

// TestTold: what is put is told as it was, wherever it stands.
func TestTold(t *testing.T) {
	for _, c := range characters() {
		for _, ahead := range []string{"", "\x00", "abc", "\u20ac", "\xff", "\xe2\x82", "\xf0\x90\x80"} {
			for _, behind := range []string{"", "\x00", "\u20ac", "\xff", "\x80", "\xbf\xbf\xbf"} {
				b := put(t, c)
				row := []byte(ahead + string(b) + behind)
				expectNext(t, row, len(ahead), c, len(ahead)+len(b), true)
			}
		}
	}
}

// TestInARow: what is put one behind the other is told one by one, each at the place that the one ahead of it tells, and so many they are.
func TestInARow(t *testing.T) {
	list := characters()
	for c := rune(0); c <= 1114111; c += 61 {
		if isCharacter(int64(c)) {
			list = append(list, c)
		}
	}
	row := []byte(puts(t, list...))
	expectCount(t, row, len(list), true)
	at := 0
	for _, c := range list {
		next := at + len(put(t, c))
		expectNext(t, row, at, c, next, true)
		at = next
	}
	if at != len(row) {
		t.Errorf("%d of %d", at, len(row))
	}
	expectNext(t, row, at, 0, 0, false)
}

// TestNamesTogether: two names one behind the other are one, of as many characters as both; with something that is no name on either side they are none.
func TestNamesTogether(t *testing.T) {
	names := []string{"", "\x00", "abc", puts(t, ends...), puts(t, others...)}
	for _, c := range characters() {
		names = append(names, puts(t, c), puts(t, c, c), puts(t, 'a', c, 65533))
	}
	for _, x := range names {
		for _, y := range names {
			xs, okX := Count([]byte(x))
			ys, okY := Count([]byte(y))
			if !okX || !okY {
				t.Fatalf("% x or % x: no name", x, y)
			}
			expectCount(t, []byte(x+y), xs+ys, true)
		}
		for _, y := range broken {
			expectCount(t, []byte(x+y), 0, false)
			expectCount(t, []byte(y+x), 0, false)
		}
	}
}

// TestNamesCut: at each place both halves are names of all the characters, or, in the midst of one, neither is a name.
func TestNamesCut(t *testing.T) {
	list := append(characters(), 'a', 65533, 65533, 0, 1114111)
	name := puts(t, list...)
	at := 0
	for i, c := range list {
		expectCount(t, []byte(name[:at]), i, true)
		expectCount(t, []byte(name[at:]), len(list)-i, true)
		end := at + len(put(t, c))
		for cut := at + 1; cut < end; cut++ {
			expectCount(t, []byte(name[:cut]), 0, false)
			expectCount(t, []byte(name[cut:]), 0, false)
		}
		at = end
	}
	expectCount(t, []byte(name), len(list), true)
}

// TestLong: a fault is found at each end of many characters, and what is counted is all of them.
func TestLong(t *testing.T) {
	const many = 1 << 18
	for _, c := range []rune{'a', 233, 8364, 65533, 128512} {
		b := bytes.Repeat(put(t, c), many)
		size := len(b) / many
		expectCount(t, b, many, true)
		expectNext(t, b, len(b)-size, c, len(b), true)
		expectNext(t, b, len(b), 0, 0, false)
		for _, at := range []int{0, len(b) / 2 / size * size, len(b) - 1} {
			was := b[at]
			b[at] = 255
			expectCount(t, b, 0, false)
			b[at] = was
		}
		expectCount(t, b, many, true)
	}
}

// DOC.md's rules

// TestHandedInStays: the bytes that are handed in, and those behind their length in their memory, stay as they were.
func TestHandedInStays(t *testing.T) {
	for _, s := range append([]string{"", "abc", "\u20ac", "\ufffd\ufffd", puts(t, ends...)}, broken...) {
		memory := []byte(s + "\u20ac\xffz")
		was := string(memory)
		for length := range len(memory) + 1 {
			b := memory[:length]
			Count(b)
			Valid(b)
			for at := -1; at <= length+1; at++ {
				Next(b, at)
			}
			if string(memory) != was {
				t.Fatalf("% x were % x", memory, was)
			}
		}
	}
}

// TestBehindTheLength: what lies behind a list's length in its memory isn't read.
func TestBehindTheLength(t *testing.T) {
	for _, c := range characters() {
		memory := []byte(puts(t, c, 'a', c))
		size := len(put(t, c))
		for length := range size {
			b := memory[:length]
			expectNext(t, b, 0, 0, 0, false)
			expectNext(t, b, length, 0, 0, false)
			expectNext(t, b, size, 0, 0, false)
			expectCount(t, b, 0, length == 0)
		}
		expectNext(t, memory[:size], 0, c, size, true)
		expectNext(t, memory[:size], size, 0, 0, false)
		expectCount(t, memory[:size], 1, true)
	}
}

// TestNewMemory: what is put is memory of its own, to the end of its spare room, each time.
func TestNewMemory(t *testing.T) {
	for _, c := range characters() {
		first := put(t, c)
		second := put(t, c)
		was := form(int64(c))
		spare := first[:cap(first)]
		for i := range spare {
			spare[i] ^= 0xff
		}
		if string(second) != was || string(put(t, c)) != was {
			t.Fatalf("Put of %d: % x is shared", c, second)
		}
		expectNext(t, second, 0, c, len(second), true)
	}
}
