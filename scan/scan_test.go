package scan

import (
	"bytes"
	"fmt"
	"math"
	"strings"
	"testing"
	"unicode/utf8"

	"trunnion/api"
)

// The chapter's words, written out: of each call what it answers of the bytes at its place, how many of them it reads, and how it fails.

// unsignedForm: an unsigned number of so many bits, by layer 15's section 'The form'.
func unsignedForm(s string, bits int) (n uint64, length int, e api.Errno) {
	switch {
	case s == "":
		return 0, 0, api.ErrEnd
	case s[0] < 128:
		if bits < 7 && s[0]>>bits != 0 {
			return 0, 0, api.ErrLeb
		}
		return uint64(s[0]), 1, api.OK
	case bits <= 7:
		return 0, 0, api.ErrLeb
	}
	m, length, e := unsignedForm(s[1:], bits-7)
	return uint64(s[0]) - 128 + 128*m, length + 1, e
}

// signedForm: a signed number of so many bits.
func signedForm(s string, bits int) (n int64, length int, e api.Errno) {
	if s == "" {
		return 0, 0, api.ErrEnd
	}
	b := int64(s[0])
	if b < 128 {
		if b >= 64 {
			b -= 128
		}
		if bits < 7 && (b >= 1<<(bits-1) || b < -(1<<(bits-1))) {
			return 0, 0, api.ErrLeb
		}
		return b, 1, api.OK
	}
	if bits <= 7 {
		return 0, 0, api.ErrLeb
	}
	m, length, e := signedForm(s[1:], bits-7)
	return 128*m + b - 128, length + 1, e
}

// takeForm: so many bytes.
func takeForm(s string, n uint64) (b string, length int, e api.Errno) {
	if uint64(len(s)) < n {
		return "", 0, api.ErrEnd
	}
	return s[:n], int(n), api.OK
}

// fixedForm: so many bytes, the lowest first.
func fixedForm(s string, n int) (number uint64, length int, e api.Errno) {
	if n != 4 && n != 8 {
		return 0, 0, api.ErrArg
	}
	if len(s) < n {
		return 0, 0, api.ErrEnd
	}
	for i := n - 1; i >= 0; i-- {
		number = number*256 + uint64(s[i])
	}
	return number, n, api.OK
}

// nameForm: a name, by Go's own package.
func nameForm(s string) (name string, length int, e api.Errno) {
	n, length, e := unsignedForm(s, 32)
	if e != api.OK {
		return "", 0, e
	}
	name, size, e := takeForm(s[length:], n)
	if e == api.OK && !utf8.ValidString(name) {
		e = api.ErrName
	}
	return name, length + size, e
}

// countForm: how many things come.
func countForm(s string) (n, length int, e api.Errno) {
	u, length, e := unsignedForm(s, 32)
	if e == api.OK && u > 4096 {
		e = api.ErrLimit
	}
	return int(u), length, e
}

// byteForm: a byte that must be one of these.
func byteForm(s string, these string, wrong api.Errno) (b byte, length int, e api.Errno) {
	if s == "" {
		return 0, 0, api.ErrEnd
	}
	if strings.IndexByte(these, s[0]) < 0 {
		return 0, 0, wrong
	}
	return s[0], 1, api.OK
}

// types: those of values.
const types = "\x7f\x7e\x7d\x7c"

// resultsForm: a block's type.
func resultsForm(s string) (b byte, length int, e api.Errno) {
	b, length, e = byteForm(s, types+"\x40", api.ErrType)
	if b == 0x40 {
		b = 0
	}
	return b, length, e
}

// limitsForm: limits.
func limitsForm(s string) (l api.Limits, length int, e api.Errno) {
	kind, at, e := byteForm(s, "\x00\x01", api.ErrByte)
	if e != api.OK {
		return l, 0, e
	}
	n, length, e := unsignedForm(s[at:], 32)
	l.Min, at = uint32(n), at+length
	if e != api.OK || kind == 0 {
		return l, at, e
	}
	n, length, e = unsignedForm(s[at:], 32)
	l.Max, l.Has = uint32(n), true
	return l, at + length, e
}

// globalForm: a global's type.
func globalForm(s string) (g api.GlobalType, length int, e api.Errno) {
	g.Type, length, e = byteForm(s, types, api.ErrType)
	if e != api.OK {
		return g, 0, e
	}
	mut, _, e := byteForm(s[1:], "\x00\x01", api.ErrByte)
	g.Mut = mut == 1
	return g, 2, e
}

// tableForm: a table's type.
func tableForm(s string) (l api.Limits, length int, e api.Errno) {
	if _, _, e := byteForm(s, "\x70", api.ErrType); e != api.OK {
		return l, 0, e
	}
	l, length, e = limitsForm(s[1:])
	return l, length + 1, e
}

// valuesForm: a count, and so many types of values.
func valuesForm(s string) (values []byte, at int, e api.Errno) {
	n, at, e := countForm(s)
	for range n {
		if e != api.OK {
			break
		}
		var v byte
		v, _, e = byteForm(s[at:], types, api.ErrType)
		values, at = append(values, v), at+1
	}
	return values, at, e
}

// funcForm: a function's type.
func funcForm(s string) (f api.FuncType, at int, e api.Errno) {
	if _, _, e := byteForm(s, "\x60", api.ErrByte); e != api.OK {
		return f, 0, e
	}
	params, at, e := valuesForm(s[1:])
	if e != api.OK {
		return f, 0, e
	}
	results, length, e := valuesForm(s[1+at:])
	return api.FuncType{Params: params, Results: results}, 1 + at + length, e
}

// The calls that read, all in one form

// call: a call, what it answers where there is nothing, and the chapter's words of it. Answers are texts, in which a list without an element is the same, nil or not.
type call struct {
	name string
	do   func(c *Cursor) string
	none string
	form func(s string) (answer string, length int, e api.Errno)
}

// text: an answer as a text, a name's bytes so that they can be told.
func text(x any) string {
	if s, ok := x.(string); ok {
		return fmt.Sprintf("%+q", s)
	}
	return fmt.Sprintf("%T %+v", x, x)
}

// reads: a call with its words.
func reads[T any](name string, do func(c *Cursor) T, form func(s string) (T, int, api.Errno)) call {
	var none T
	return call{
		name,
		func(c *Cursor) string { return text(do(c)) },
		text(none),
		func(s string) (string, int, api.Errno) {
			x, length, e := form(s)
			if e != api.OK {
				return text(none), 0, e
			}
			return text(x), length, api.OK
		},
	}
}

// fixed: the call of Fixed with an argument.
func fixed(n int) call {
	return reads(fmt.Sprintf("Fixed(%d)", n), func(c *Cursor) uint64 { return c.Fixed(n) }, func(s string) (uint64, int, api.Errno) { return fixedForm(s, n) })
}

// take: the call of Take with an argument.
func take(n uint32) call {
	return reads(fmt.Sprintf("Take(%d)", n), func(c *Cursor) []byte { return c.Take(n) }, func(s string) ([]byte, int, api.Errno) {
		b, length, e := takeForm(s, uint64(n))
		return []byte(b), length, e
	})
}

var (
	anyByte  = reads("Byte", (*Cursor).Byte, func(s string) (byte, int, api.Errno) { b, n, e := takeForm(s, 1); return (b + "\x00")[0], n, e })
	u32      = reads("U32", (*Cursor).U32, func(s string) (uint32, int, api.Errno) { u, n, e := unsignedForm(s, 32); return uint32(u), n, e })
	s32      = reads("S32", (*Cursor).S32, func(s string) (uint32, int, api.Errno) { i, n, e := signedForm(s, 32); return uint32(i), n, e })
	s64      = reads("S64", (*Cursor).S64, func(s string) (uint64, int, api.Errno) { i, n, e := signedForm(s, 64); return uint64(i), n, e })
	name     = reads("Name", (*Cursor).Name, nameForm)
	count    = reads("Count", (*Cursor).Count, countForm)
	value    = reads("Value", (*Cursor).Value, func(s string) (byte, int, api.Errno) { return byteForm(s, types, api.ErrType) })
	results  = reads("Results", (*Cursor).Results, resultsForm)
	limits   = reads("Limits", (*Cursor).Limits, limitsForm)
	global   = reads("Global", (*Cursor).Global, globalForm)
	table    = reads("Table", (*Cursor).Table, tableForm)
	funcType = reads("Func", (*Cursor).Func, funcForm)
)

// notFixed: arguments that Fixed doesn't take, beside those that it takes and far away.
var notFixed = []int{0, 1, 2, 3, 5, 6, 7, 9, 12, 16, 32, 64, 100, -1, -2, -3, -4, -5, -8, 1<<31 - 1, -1 << 31, math.MaxInt, math.MaxInt - 3, math.MaxInt - 7, math.MinInt, math.MinInt + 4, math.MinInt + 8}

// calls: each of them, those with an argument with several.
func calls() []call {
	list := []call{anyByte, u32, s32, s64, fixed(4), fixed(8), name, count, value, results, limits, global, table, funcType}
	for _, n := range []uint32{0, 1, 2, 3, 7, 8, 1 << 31, 1<<31 - 1, math.MaxUint32} {
		list = append(list, take(n))
	}
	for _, n := range notFixed {
		list = append(list, fixed(n))
	}
	return list
}

// state: all that a cursor tells of itself.
type state struct {
	at, left int
	e        api.Errno
}

func stateOf(c *Cursor) state { return state{c.At(), c.Left(), c.Err()} }

// expectState holds what a cursor tells of itself against what is wanted.
func expectState(t *testing.T, c *Cursor, want state) {
	t.Helper()
	if got := stateOf(c); got != want {
		t.Fatalf("%+v, not %+v", got, want)
	}
}

// expect does a call, and holds what it answers, and what the cursor is behind it, against what is wanted.
func expect(t *testing.T, c *Cursor, do call, answer string, want state) {
	t.Helper()
	was := stateOf(c)
	if got := do.do(c); got != answer {
		t.Fatalf("%s at %+v of % .40x: %s, not %s", do.name, was, c.all, got, answer)
	}
	if got := stateOf(c); got != want {
		t.Fatalf("%s at %+v of % .40x: %+v, not %+v", do.name, was, c.all, got, want)
	}
}

// newAt: a cursor at a place.
func newAt(t *testing.T, s string, at int) *Cursor {
	t.Helper()
	c := New([]byte(s))
	if b := c.Take(uint32(at)); string(b) != s[:at] {
		t.Fatalf("Take(%d) of % x: % x", at, s, b)
	}
	expectState(t, c, state{at, len(s) - at, api.OK})
	return c
}

// expectForm holds a call at a place against the chapter's words.
func expectForm(t *testing.T, s string, at int, do call) {
	t.Helper()
	c := newAt(t, s, at)
	answer, length, e := do.form(s[at:])
	expect(t, c, do, answer, state{at + length, len(s) - at - length, e})
}

// expectForms holds all calls at all places against the chapter's words.
func expectForms(t *testing.T, s string) {
	t.Helper()
	for _, do := range calls() {
		for at := range len(s) + 1 {
			expectForm(t, s, at, do)
		}
	}
}

// words: numbers of 64 bits without a pattern, the same at each run.
func words(n int) []uint64 {
	l := make([]uint64, n)
	x := uint64(0x9e3779b97f4a7c15)
	for i := range l {
		x ^= x << 13
		x ^= x >> 7
		x ^= x << 17
		l[i] = x
	}
	return l
}

// The chapter's examples

func TestExamples(t *testing.T) {
	c := New([]byte{1, 5, 7})
	if l := c.Limits(); l != (api.Limits{Min: 5, Max: 7, Has: true}) {
		t.Errorf("%+v", l)
	}
	expectState(t, c, state{3, 0, api.OK})
	c = New([]byte{96, 1, 127, 0})
	if f := c.Func(); !bytes.Equal(f.Params, []byte{api.I32}) || len(f.Results) != 0 {
		t.Errorf("%+v", f)
	}
	expectState(t, c, state{4, 0, api.OK})
}

// What is read, by hand

// sample: bytes, and what a call that reads just these answers.
type sample struct {
	do     call
	bytes  string
	answer string
}

// functions: a sample of a function's type.
func functions(bytes, params, results string) sample {
	return sample{funcType, bytes, text(api.FuncType{Params: []byte(params), Results: []byte(results)})}
}

func samples() []sample {
	return []sample{
		{anyByte, "\x00", text(byte(0))},
		{anyByte, "\x01", text(byte(1))},
		{anyByte, "\x7f", text(byte(127))},
		{anyByte, "\x80", text(byte(128))},
		{anyByte, "\xff", text(byte(255))},

		{u32, "\x00", text(uint32(0))},
		{u32, "\x01", text(uint32(1))},
		{u32, "\x40", text(uint32(64))},
		{u32, "\x7f", text(uint32(127))},
		{u32, "\x80\x01", text(uint32(128))},
		{u32, "\xe5\x8e\x26", text(uint32(624485))},
		{u32, "\xff\xff\xff\xff\x07", text(uint32(2147483647))},
		{u32, "\x80\x80\x80\x80\x08", text(uint32(2147483648))},
		{u32, "\xff\xff\xff\xff\x0f", text(uint32(4294967295))},
		{u32, "\x80\x00", text(uint32(0))}, // more bytes than it needs
		{u32, "\x80\x80\x80\x80\x00", text(uint32(0))},
		{u32, "\x85\x80\x00", text(uint32(5))},
		{u32, "\xff\x80\x80\x80\x00", text(uint32(127))},

		{s32, "\x00", text(uint32(0))},
		{s32, "\x3f", text(uint32(63))},
		{s32, "\x40", text(uint32(4294967232))}, // -64
		{s32, "\x7f", text(uint32(4294967295))}, // -1
		{s32, "\xc0\x00", text(uint32(64))},
		{s32, "\x80\x7f", text(uint32(4294967168))}, // -128
		{s32, "\xe5\x8e\x26", text(uint32(624485))},
		{s32, "\xff\xff\xff\xff\x07", text(uint32(2147483647))},
		{s32, "\x80\x80\x80\x80\x78", text(uint32(2147483648))}, // -2147483648
		{s32, "\x81\x80\x80\x80\x78", text(uint32(2147483649))},
		{s32, "\xff\x7f", text(uint32(4294967295))}, // more bytes than it needs
		{s32, "\xff\xff\xff\xff\x7f", text(uint32(4294967295))},
		{s32, "\x80\x80\x80\x80\x00", text(uint32(0))},

		{s64, "\x00", text(uint64(0))},
		{s64, "\x3f", text(uint64(63))},
		{s64, "\x40", text(uint64(18446744073709551552))}, // -64
		{s64, "\x7f", text(uint64(18446744073709551615))}, // -1
		{s64, "\x80\x7f", text(uint64(18446744073709551488))},
		{s64, "\x80\x80\x80\x80\x08", text(uint64(2147483648))},
		{s64, "\x80\x80\x80\x80\x78", text(uint64(18446744071562067968))},
		{s64, "\xff\xff\xff\xff\xff\xff\xff\xff\xff\x00", text(uint64(9223372036854775807))},
		{s64, "\x80\x80\x80\x80\x80\x80\x80\x80\x80\x7f", text(uint64(9223372036854775808))},
		{s64, "\xff\xff\xff\xff\xff\xff\xff\xff\xff\x7f", text(uint64(18446744073709551615))}, // more bytes than it needs
		{s64, "\x80\x80\x80\x80\x80\x80\x80\x80\x80\x00", text(uint64(0))},

		{fixed(4), "\x00\x00\x00\x00", text(uint64(0))},
		{fixed(4), "\x01\x02\x03\x04", text(uint64(67305985))},
		{fixed(4), "\x00\x00\x00\x80", text(uint64(2147483648))},
		{fixed(4), "\xff\xff\xff\xff", text(uint64(4294967295))},
		{fixed(8), "\x00\x00\x00\x00\x00\x00\x00\x00", text(uint64(0))},
		{fixed(8), "\x01\x02\x03\x04\x05\x06\x07\x08", text(uint64(0x0807060504030201))},
		{fixed(8), "\x00\x00\x00\x00\x00\x00\x00\x80", text(uint64(9223372036854775808))},
		{fixed(8), "\xff\xff\xff\xff\xff\xff\xff\xff", text(uint64(18446744073709551615))},

		{take(0), "", text([]byte{})},
		{take(1), "\x00", text([]byte{0})},
		{take(1), "\xff", text([]byte{255})},
		{take(3), "\xff\x00\x80", text([]byte{255, 0, 128})},
		{take(300), strings.Repeat("abc", 100), text([]byte(strings.Repeat("abc", 100)))},

		{name, "\x00", text("")},
		{name, "\x80\x80\x00", text("")},
		{name, "\x01a", text("a")},
		{name, "\x01\x00", text("\x00")},
		{name, "\x03abc", text("abc")},
		{name, "\x83\x80\x80\x80\x00abc", text("abc")},
		{name, "\x02\xc3\xa9", text("\u00e9")},
		{name, "\x03\xe2\x82\xac", text("\u20ac")},
		{name, "\x03\xef\xbf\xbd", text("\ufffd")},
		{name, "\x04\xf0\x9f\x98\x80", text("\U0001f600")},
		{name, "\x0aa\xc3\xa9\xe2\x82\xac\xf4\x8f\xbf\xbf", text("a\u00e9\u20ac\U0010ffff")},
		{name, "\xac\x02" + strings.Repeat("\xe2\x82\xac", 100), text(strings.Repeat("\u20ac", 100))},

		{count, "\x00", text(0)},
		{count, "\x01", text(1)},
		{count, "\x7f", text(127)},
		{count, "\x80\x01", text(128)},
		{count, "\xff\x1f", text(4095)},
		{count, "\x80\x20", text(4096)},
		{count, "\x80\xa0\x80\x80\x00", text(4096)},

		{value, "\x7f", text(byte(api.I32))},
		{value, "\x7e", text(byte(api.I64))},
		{value, "\x7d", text(byte(api.F32))},
		{value, "\x7c", text(byte(api.F64))},

		{results, "\x7f", text(byte(api.I32))},
		{results, "\x7e", text(byte(api.I64))},
		{results, "\x7d", text(byte(api.F32))},
		{results, "\x7c", text(byte(api.F64))},
		{results, "\x40", text(byte(0))},

		{limits, "\x00\x00", text(api.Limits{})},
		{limits, "\x00\x09", text(api.Limits{Min: 9})},
		{limits, "\x00\xff\xff\xff\xff\x0f", text(api.Limits{Min: 4294967295})},
		{limits, "\x00\x89\x80\x80\x80\x00", text(api.Limits{Min: 9})},
		{limits, "\x01\x00\x00", text(api.Limits{Has: true})},
		{limits, "\x01\x05\x07", text(api.Limits{Min: 5, Max: 7, Has: true})},
		{limits, "\x01\x07\x05", text(api.Limits{Min: 7, Max: 5, Has: true})}, // whether that may be layer 24 says
		{limits, "\x01\x80\x01\x80\x80\x04", text(api.Limits{Min: 128, Max: 65536, Has: true})},
		{limits, "\x01\xff\xff\xff\xff\x0f\xfe\xff\xff\xff\x0f", text(api.Limits{Min: 4294967295, Max: 4294967294, Has: true})},

		{global, "\x7f\x00", text(api.GlobalType{Type: api.I32})},
		{global, "\x7f\x01", text(api.GlobalType{Type: api.I32, Mut: true})},
		{global, "\x7e\x00", text(api.GlobalType{Type: api.I64})},
		{global, "\x7e\x01", text(api.GlobalType{Type: api.I64, Mut: true})},
		{global, "\x7d\x01", text(api.GlobalType{Type: api.F32, Mut: true})},
		{global, "\x7c\x00", text(api.GlobalType{Type: api.F64})},

		{table, "\x70\x00\x00", text(api.Limits{})},
		{table, "\x70\x00\x09", text(api.Limits{Min: 9})},
		{table, "\x70\x01\x05\x07", text(api.Limits{Min: 5, Max: 7, Has: true})},
		{table, "\x70\x01\x80\x80\x04\xff\xff\xff\xff\x0f", text(api.Limits{Min: 65536, Max: 4294967295, Has: true})},

		functions("\x60\x00\x00", "", ""),
		functions("\x60\x01\x7f\x00", "\x7f", ""),
		functions("\x60\x00\x01\x7c", "", "\x7c"),
		functions("\x60\x01\x7d\x01\x7e", "\x7d", "\x7e"),
		functions("\x60\x02\x7f\x7e\x01\x7d", "\x7f\x7e", "\x7d"),
		functions("\x60\x04\x7f\x7e\x7d\x7c\x03\x7c\x7d\x7c", "\x7f\x7e\x7d\x7c", "\x7c\x7d\x7c"),
		functions("\x60\x80\x80\x00\x81\x80\x80\x80\x00\x7f", "", "\x7f"),
		functions("\x60\x80\x01"+strings.Repeat("\x7f\x7c", 64)+"\x81\x01"+strings.Repeat("\x7e\x7d\x7c", 43), strings.Repeat("\x7f\x7c", 64), strings.Repeat("\x7e\x7d\x7c", 43)),
	}
}

// pieces: what may stand ahead of something, or behind it.
var pieces = []string{"", "\x00", "\x01", "\x7f", "\x80", "\xff", "\x7f\x7f\x7f", "\xff\xff\xff\xff\xff\xff", "\x60\x00\x00", "abc", "\x80\x80\x80\x80\x80\x80\x80\x80\x80\x80"}

// TestSamples: at the beginning, in the midst and at the end of other bytes, what is read is just the sample.
func TestSamples(t *testing.T) {
	for _, w := range samples() {
		for _, ahead := range pieces {
			for _, behind := range pieces {
				c := newAt(t, ahead+w.bytes+behind, len(ahead))
				expect(t, c, w.do, w.answer, state{len(ahead) + len(w.bytes), len(behind), api.OK})
				if rest := c.Take(uint32(len(behind))); string(rest) != behind {
					t.Fatalf("behind %s of % x: % x, not % x", w.do.name, w.bytes, rest, behind)
				}
			}
		}
	}
}

// TestCutOff: bytes that end behind each of a sample's bytes, so behind each of its parts.
func TestCutOff(t *testing.T) {
	for _, w := range samples() {
		for length := range len(w.bytes) {
			for _, ahead := range pieces {
				c := newAt(t, ahead+w.bytes[:length], len(ahead))
				expect(t, c, w.do, w.do.none, state{len(ahead), length, api.ErrEnd})
			}
		}
	}
}

// TestInARow: one sample behind the other, all with one cursor, in two orders.
func TestInARow(t *testing.T) {
	list := samples()
	for range 2 {
		var row strings.Builder
		for _, w := range list {
			row.WriteString(w.bytes)
		}
		c := New([]byte(row.String()))
		at := 0
		for _, w := range list {
			at += len(w.bytes)
			expect(t, c, w.do, w.answer, state{at, row.Len() - at, api.OK})
		}
		expect(t, c, anyByte, text(byte(0)), state{row.Len(), 0, api.ErrEnd})
		for i := range len(list) / 2 {
			list[i], list[len(list)-1-i] = list[len(list)-1-i], list[i]
		}
	}
}

// TestNoBytes: New of nothing, which is nil or not.
func TestNoBytes(t *testing.T) {
	for _, b := range [][]byte{nil, {}, []byte("\x00\x00\x00")[:0]} {
		expectState(t, New(b), state{0, 0, api.OK})
		for _, do := range calls() {
			answer, length, e := do.form("")
			if length != 0 || answer != do.none {
				t.Fatalf("%s of no bytes: %s, %d", do.name, answer, length)
			}
			expect(t, New(b), do, do.none, state{0, 0, e})
		}
	}
}

// How it fails, by hand

// fault: bytes that a call refuses.
type fault struct {
	do    call
	bytes string
	e     api.Errno
}

var faults = []fault{
	{anyByte, "", api.ErrEnd},
	{take(1), "", api.ErrEnd},
	{take(3), "ab", api.ErrEnd},
	{take(math.MaxUint32), "abc", api.ErrEnd},
	{take(1 << 31), "abc", api.ErrEnd},
	{fixed(4), "", api.ErrEnd},
	{fixed(4), "\x01\x02\x03", api.ErrEnd},
	{fixed(8), "\x01\x02\x03\x04\x05\x06\x07", api.ErrEnd},
	{fixed(5), "", api.ErrArg}, // and not ErrEnd
	{fixed(5), "\x01\x02\x03\x04\x05\x06\x07\x08", api.ErrArg},
	{fixed(0), "", api.ErrArg},
	{fixed(-4), "\x01\x02\x03\x04", api.ErrArg},
	{fixed(math.MaxInt), "", api.ErrArg},

	{u32, "", api.ErrEnd},
	{u32, "\x80\x80\x80\x80", api.ErrEnd},
	{u32, "\xff\xff\xff\xff\x10", api.ErrLeb}, // 2^32 and more
	{u32, "\x80\x80\x80\x80\x7f", api.ErrLeb},
	{u32, "\x80\x80\x80\x80\x80", api.ErrLeb}, // too long, though the bytes end: and not ErrEnd
	{u32, "\x80\x80\x80\x80\x80\x00", api.ErrLeb},
	{s32, "", api.ErrEnd},
	{s32, "\xff\xff\xff\xff", api.ErrEnd},
	{s32, "\x80\x80\x80\x80\x08", api.ErrLeb}, // 2^31
	{s32, "\xff\xff\xff\xff\x77", api.ErrLeb}, // -2^31 - 1
	{s32, "\xff\xff\xff\xff\x0f", api.ErrLeb},
	{s32, "\xff\xff\xff\xff\xff", api.ErrLeb},
	{s32, "\xff\xff\xff\xff\xff\x7f", api.ErrLeb},
	{s64, "", api.ErrEnd},
	{s64, "\x80\x80\x80\x80\x80\x80\x80\x80\x80", api.ErrEnd},
	{s64, "\x80\x80\x80\x80\x80\x80\x80\x80\x80\x01", api.ErrLeb}, // 2^63
	{s64, "\xff\xff\xff\xff\xff\xff\xff\xff\xff\x7e", api.ErrLeb}, // -2^63 - 1
	{s64, "\x80\x80\x80\x80\x80\x80\x80\x80\x80\x80", api.ErrLeb},
	{s64, "\xff\xff\xff\xff\xff\xff\xff\xff\xff\xff\x7f", api.ErrLeb},

	{name, "", api.ErrEnd},
	{name, "\x80", api.ErrEnd},
	{name, "\x80\x80\x80\x80\x10", api.ErrLeb},
	{name, "\x80\x80\x80\x80\x80", api.ErrLeb},
	{name, "\x01", api.ErrEnd},
	{name, "\x04abc", api.ErrEnd},
	{name, "\x02\xff", api.ErrEnd}, // and not ErrName
	{name, "\x03\xff\xff", api.ErrEnd},
	{name, "\xff\xff\xff\xff\x0f\xff", api.ErrEnd},
	{name, "\x80\x80\x80\x80\x08abc", api.ErrEnd},
	{name, "\x01\xff", api.ErrName},
	{name, "\x01\x80", api.ErrName},
	{name, "\x02\xc0\x80", api.ErrName},
	{name, "\x03\xed\xa0\x80", api.ErrName},
	{name, "\x04\xf4\x90\x80\x80", api.ErrName},
	{name, "\x02\xe2\x82\xac", api.ErrName}, // cut in the midst of a character that the bytes behind it would end
	{name, "\x01\xc3\xa9", api.ErrName},
	{name, "\x03\xf0\x9f\x98\x80", api.ErrName},
	{name, "\x04abc\xe2\x82\xac", api.ErrName},
	{name, "\x04\xffabc", api.ErrName},
	{name, "\x04abc\xff", api.ErrName},

	{count, "", api.ErrEnd},
	{count, "\x81", api.ErrEnd},
	{count, "\x81\x20", api.ErrLimit},
	{count, "\x81\xa0\x80\x80\x00", api.ErrLimit},
	{count, "\xff\xff\xff\xff\x07", api.ErrLimit},
	{count, "\x80\x80\x80\x80\x08", api.ErrLimit},
	{count, "\xff\xff\xff\xff\x0f", api.ErrLimit},
	{count, "\xff\xff\xff\xff\x1f", api.ErrLeb},
	{count, "\xff\xff\xff\xff\xff", api.ErrLeb},

	{value, "", api.ErrEnd},
	{value, "\x40", api.ErrType},
	{value, "\x7b", api.ErrType},
	{value, "\x70", api.ErrType},
	{results, "", api.ErrEnd},
	{results, "\x00", api.ErrType},
	{results, "\x41", api.ErrType},
	{results, "\x70", api.ErrType},

	{limits, "", api.ErrEnd},
	{limits, "\x02", api.ErrByte}, // and not ErrEnd
	{limits, "\x02\x01\x01", api.ErrByte},
	{limits, "\x80\x00\x01", api.ErrByte}, // a byte, no number
	{limits, "\x81\x00\x01\x01", api.ErrByte},
	{limits, "\x00", api.ErrEnd},
	{limits, "\x00\x80", api.ErrEnd},
	{limits, "\x00\x80\x80\x80\x80\x10", api.ErrLeb},
	{limits, "\x00\x80\x80\x80\x80\x80", api.ErrLeb},
	{limits, "\x01", api.ErrEnd},
	{limits, "\x01\x80\x80\x80\x80\x10", api.ErrLeb},
	{limits, "\x01\x80\x80\x80\x80\x10\x00", api.ErrLeb},
	{limits, "\x01\x05", api.ErrEnd},
	{limits, "\x01\x05\x80", api.ErrEnd},
	{limits, "\x01\x05\x80\x80\x80\x80\x10", api.ErrLeb},
	{limits, "\x01\x05\xff\xff\xff\xff\xff", api.ErrLeb},

	{global, "", api.ErrEnd},
	{global, "\x40", api.ErrType}, // and not ErrEnd
	{global, "\x40\x01", api.ErrType},
	{global, "\x00\x02", api.ErrType}, // and not ErrByte
	{global, "\x7f", api.ErrEnd},
	{global, "\x7f\x02", api.ErrByte},
	{global, "\x7f\x80", api.ErrByte},
	{global, "\x7c\xff", api.ErrByte},

	{table, "", api.ErrEnd},
	{table, "\x6f", api.ErrType}, // and not ErrEnd
	{table, "\x6f\x00\x00", api.ErrType},
	{table, "\x7f\x02", api.ErrType}, // and not ErrByte
	{table, "\x70", api.ErrEnd},
	{table, "\x70\x02", api.ErrByte},
	{table, "\x70\x00", api.ErrEnd},
	{table, "\x70\x00\x80\x80\x80\x80\x10", api.ErrLeb},
	{table, "\x70\x01\x05", api.ErrEnd},
	{table, "\x70\x01\x05\x80\x80\x80\x80\x10", api.ErrLeb},

	{funcType, "", api.ErrEnd},
	{funcType, "\x5f", api.ErrByte}, // and not ErrEnd
	{funcType, "\x61\x00\x00", api.ErrByte},
	{funcType, "\x40\x81\x20", api.ErrByte}, // and not ErrLimit
	{funcType, "\x60", api.ErrEnd},
	{funcType, "\x60\x80", api.ErrEnd},
	{funcType, "\x60\x81\x20", api.ErrLimit}, // and not ErrEnd
	{funcType, "\x60\xff\xff\xff\xff\x0f", api.ErrLimit},
	{funcType, "\x60\xff\xff\xff\xff\x1f", api.ErrLeb},
	{funcType, "\x60\x80\x20", api.ErrEnd},
	{funcType, "\x60\x01", api.ErrEnd},
	{funcType, "\x60\x01\x40\x00", api.ErrType},
	{funcType, "\x60\x02\x7f", api.ErrEnd},
	{funcType, "\x60\x02\x7f\x00\x00", api.ErrType},
	{funcType, "\x60\x02\x00", api.ErrType}, // of the first thing, and not ErrEnd of the second
	{funcType, "\x60\x01\x7f", api.ErrEnd},
	{funcType, "\x60\x01\x7f\x80", api.ErrEnd},
	{funcType, "\x60\x01\x7f\x81\x20", api.ErrLimit},
	{funcType, "\x60\x00\x80\x80\x80\x80\x80", api.ErrLeb},
	{funcType, "\x60\x00\x80\x20\x7f\x7f", api.ErrEnd},
	{funcType, "\x60\x00\x01", api.ErrEnd},
	{funcType, "\x60\x00\x01\x40", api.ErrType},
	{funcType, "\x60\x01\x7f\x02\x7f\x7b", api.ErrType},
	{funcType, "\x60\x01\x7f\x03\x7f\x7b", api.ErrType}, // and not ErrEnd
}

// TestFaults: the failure, the place ahead of the call, and nothing as the answer, wherever it stands; and what fails at a byte does so with anything behind it.
func TestFaults(t *testing.T) {
	for _, w := range faults {
		for _, ahead := range pieces {
			c := newAt(t, ahead+w.bytes, len(ahead))
			expect(t, c, w.do, w.do.none, state{len(ahead), len(w.bytes), w.e})
			if w.e == api.ErrEnd {
				continue
			}
			for _, behind := range pieces {
				c := newAt(t, ahead+w.bytes+behind, len(ahead))
				expect(t, c, w.do, w.do.none, state{len(ahead), len(w.bytes) + len(behind), w.e})
			}
		}
	}
}

// TestEachFailure: the faults have each failure of which the chapter speaks.
func TestEachFailure(t *testing.T) {
	seen := map[api.Errno]int{}
	for _, w := range faults {
		seen[w.e]++
	}
	for _, e := range []api.Errno{api.ErrArg, api.ErrLimit, api.ErrEnd, api.ErrLeb, api.ErrName, api.ErrType, api.ErrByte} {
		if seen[e] == 0 {
			t.Errorf("no fault with %d", e)
		}
	}
}

// expectByte: a byte, with others ahead of it and behind it, that a call takes whole, or refuses.
func expectByte(t *testing.T, do call, ahead string, b byte, behind string, ok bool, answer any, wrong api.Errno) {
	t.Helper()
	s := ahead + string([]byte{b}) + behind
	if ok {
		expect(t, New([]byte(s)), do, text(answer), state{len(s), 0, api.OK})
	} else {
		expect(t, New([]byte(s)), do, do.none, state{0, len(s), wrong})
	}
}

// TestEachByte: each byte where a call takes few of them.
func TestEachByte(t *testing.T) {
	for i := range 256 {
		b := byte(i)
		isType := b >= 0x7c && b <= 0x7f
		expectByte(t, anyByte, "", b, "", true, b, api.OK)
		expectByte(t, value, "", b, "", isType, b, api.ErrType)
		if b != 0x40 {
			expectByte(t, results, "", b, "", isType, b, api.ErrType)
		} else {
			expectByte(t, results, "", b, "", true, byte(0), api.ErrType)
		}
		if b != 1 {
			expectByte(t, limits, "", b, "\x07", b == 0, api.Limits{Min: 7}, api.ErrByte)
			expectByte(t, table, "\x70", b, "\x07", b == 0, api.Limits{Min: 7}, api.ErrByte)
		}
		if b != 0 {
			expectByte(t, limits, "", b, "\x07\x09", b == 1, api.Limits{Min: 7, Max: 9, Has: true}, api.ErrByte)
			expectByte(t, table, "\x70", b, "\x07\x09", b == 1, api.Limits{Min: 7, Max: 9, Has: true}, api.ErrByte)
		}
		expectByte(t, global, "", b, "\x01", isType, api.GlobalType{Type: b, Mut: true}, api.ErrType)
		expectByte(t, global, "\x7d", b, "", b < 2, api.GlobalType{Type: api.F32, Mut: b == 1}, api.ErrByte)
		expectByte(t, table, "", b, "\x00\x07", b == 0x70, api.Limits{Min: 7}, api.ErrType)
		expectByte(t, funcType, "", b, "\x01\x7f\x01\x7e", b == 0x60, api.FuncType{Params: []byte{api.I32}, Results: []byte{api.I64}}, api.ErrByte)
		expectByte(t, funcType, "\x60\x01", b, "\x01\x7e", isType, api.FuncType{Params: []byte{b}, Results: []byte{api.I64}}, api.ErrType)
		expectByte(t, funcType, "\x60\x02\x7d\x7c\x01", b, "", isType, api.FuncType{Params: []byte{api.F32, api.F64}, Results: []byte{b}}, api.ErrType)
	}
}

// TestFixedOfOthers: ErrArg, with any bytes behind the place, or none.
func TestFixedOfOthers(t *testing.T) {
	arguments := append([]int(nil), notFixed...)
	for n := -70; n <= 70; n++ {
		if n != 4 && n != 8 {
			arguments = append(arguments, n, n+1<<32, n-1<<32)
		}
	}
	for _, n := range append(arguments, 4+1<<32, 8+1<<32, 4-1<<32, 8-1<<32) {
		for _, s := range []string{"", "abcd", "abcdefgh", strings.Repeat("x", 100)} {
			expect(t, New([]byte(s)), fixed(n), text(uint64(0)), state{0, len(s), api.ErrArg})
			expect(t, newAt(t, "ab"+s, 2), fixed(n), text(uint64(0)), state{2, len(s), api.ErrArg})
		}
	}
}

// TestTake: none, all that are left, and more, from each place.
func TestTake(t *testing.T) {
	const s = "abc\x00\xff\x80z"
	for at := range len(s) + 1 {
		left := len(s) - at
		for n := range left + 1 {
			b := []byte(s[at : at+n])
			expect(t, newAt(t, s, at), take(uint32(n)), text(b), state{at + n, left - n, api.OK})
		}
		for _, more := range []uint32{uint32(left) + 1, uint32(left) + 2, 256, 1 << 16, 1<<31 - 1, 1 << 31, 1<<31 + 1, math.MaxUint32 - 1, math.MaxUint32} {
			expect(t, newAt(t, s, at), take(more), text([]byte{}), state{at, left, api.ErrEnd})
		}
	}
}

// Counts and functions at the limit

// number: an unsigned number's bytes.
func number(n int) string {
	var b []byte
	for ; n >= 128; n /= 128 {
		b = append(b, byte(128+n%128))
	}
	return string(append(b, byte(n)))
}

func TestCountAtTheLimit(t *testing.T) {
	for n := range 3*api.MaxItems + 1 {
		s := number(n)
		if n <= api.MaxItems {
			expect(t, New([]byte(s)), count, text(n), state{len(s), 0, api.OK})
		} else {
			expect(t, New([]byte(s)), count, text(0), state{0, len(s), api.ErrLimit})
		}
	}
}

// TestFuncAtTheLimit: as many parameters and results as may be, and one more of either.
func TestFuncAtTheLimit(t *testing.T) {
	for _, n := range []int{0, 1, 2, 127, 128, 129, api.MaxItems - 1, api.MaxItems, api.MaxItems + 1, api.MaxItems + 2, 1 << 16} {
		for _, m := range []int{0, 1, 3, 128, api.MaxItems - 1, api.MaxItems, api.MaxItems + 1, 1 << 16} {
			params := strings.Repeat(types, n/4+1)[:n]
			answers := strings.Repeat("\x7d\x7f\x7c", m/3+1)[:m]
			s := "\x60" + number(n) + params + number(m) + answers
			c := New([]byte(s + "\x7f"))
			if n <= api.MaxItems && m <= api.MaxItems {
				expect(t, c, funcType, text(api.FuncType{Params: []byte(params), Results: []byte(answers)}), state{len(s), 1, api.OK})
			} else {
				expect(t, c, funcType, funcType.none, state{0, len(s) + 1, api.ErrLimit})
			}
		}
	}
}

// TestFuncOfManyWithAFault: a type that is none, or the end, at the first, a middle and the last of many.
func TestFuncOfManyWithAFault(t *testing.T) {
	const many = api.MaxItems
	whole := "\x60" + number(many) + strings.Repeat("\x7f", many) + number(many) + strings.Repeat("\x7c", many)
	for _, at := range []int{3, 3 + many/2, 2 + many, 5 + many, 5 + many + many/2, 4 + 2*many} {
		b := []byte(whole)
		b[at] = 0x40
		expect(t, New(b), funcType, funcType.none, state{0, len(b), api.ErrType})
		expect(t, New(b[:at]), funcType, funcType.none, state{0, at, api.ErrEnd})
	}
	expect(t, New([]byte(whole)), funcType, text(api.FuncType{Params: bytes.Repeat([]byte{0x7f}, many), Results: bytes.Repeat([]byte{0x7c}, many)}), state{len(whole), 0, api.OK})
}

// TestLongNames: of more bytes than a list may have things, which is no limit of theirs.
func TestLongNames(t *testing.T) {
	for _, n := range []int{api.MaxItems, api.MaxItems + 1, api.MaxBytes, 1 << 20} {
		long := strings.Repeat("\u00e9", n/2)
		s := number(len(long)) + long
		expect(t, New([]byte(s+"a")), name, text(long), state{len(s), 1, api.OK})
		expect(t, New([]byte(s[:len(s)-1])), name, text(""), state{0, len(s) - 1, api.ErrEnd})
		expect(t, New([]byte(s[:len(s)-1]+"a")), name, text(""), state{0, len(s), api.ErrName})
		if b := New([]byte(long)).Take(uint32(len(long))); string(b) != long {
			t.Errorf("Take(%d)", len(long))
		}
	}
}

// Fail, and what is behind a failure

// errnos: errors, those that no chapter knows among them.
var errnos = []api.Errno{api.ErrNil, api.ErrArg, api.ErrLimit, api.ErrZero, api.ErrEnd, api.ErrLeb, api.ErrName, api.ErrMagic, api.ErrType, api.ErrByte, api.ErrOp, api.ErrLocals, api.ErrStack, api.ErrInstr, api.ErrImport, api.ErrWord, 5, 99, 1000, -1, -100, math.MaxInt32, math.MinInt32}

func TestFail(t *testing.T) {
	for _, s := range []string{"", "a", "abc"} {
		for at := range len(s) + 1 {
			for _, e := range errnos {
				c := newAt(t, s, at)
				c.Fail(api.OK)
				expectState(t, c, state{at, len(s) - at, api.OK})
				c.Fail(e)
				expectState(t, c, state{at, len(s) - at, e})
				c.Fail(api.OK)
				expectState(t, c, state{at, len(s) - at, e})
				for _, second := range errnos {
					c.Fail(second)
					expectState(t, c, state{at, len(s) - at, e})
				}
			}
		}
	}
}

// TestFailOfOK: what is behind it is read.
func TestFailOfOK(t *testing.T) {
	for _, w := range samples() {
		c := New([]byte(w.bytes))
		c.Fail(api.OK)
		expect(t, c, w.do, w.answer, state{len(w.bytes), 0, api.OK})
	}
}

// expectStill: each call, whatever it could read, answers nothing and leaves the cursor as it is; so do those of Fail.
func expectStill(t *testing.T, c *Cursor) {
	t.Helper()
	was := stateOf(c)
	for _, do := range calls() {
		expect(t, c, do, do.none, was)
	}
	for _, e := range append(errnos, api.OK) {
		c.Fail(e)
		expectState(t, c, was)
	}
}

// TestBehindFail: bytes that each call could read are not read behind a failure that was told.
func TestBehindFail(t *testing.T) {
	for _, e := range errnos {
		for _, w := range samples() {
			for _, ahead := range []string{"", "\x00", "abc"} {
				c := newAt(t, ahead+w.bytes, len(ahead))
				c.Fail(e)
				expect(t, c, w.do, w.do.none, state{len(ahead), len(w.bytes), e})
			}
		}
		c := New([]byte(strings.Repeat("\x00", 100)))
		c.Fail(e)
		expectStill(t, c)
		c = New([]byte(strings.Repeat("\x7f", 100)))
		c.Fail(e)
		expectStill(t, c)
	}
}

// TestBehindFaults: the same behind a failure of each call's own, with much behind it that could be read.
func TestBehindFaults(t *testing.T) {
	for _, w := range faults {
		for _, ahead := range []string{"", "\x00\x00\x00"} {
			behind := "\x00\x00\x00\x00\x00\x00\x00\x00"
			if w.e == api.ErrEnd {
				behind = ""
			}
			s := ahead + w.bytes + behind
			c := newAt(t, s, len(ahead))
			expect(t, c, w.do, w.do.none, state{len(ahead), len(s) - len(ahead), w.e})
			expectStill(t, c)
		}
	}
}

// TestBehindEnds: a call that wants more bytes than are there fails, and then not even those that are there are read.
func TestBehindEnds(t *testing.T) {
	for _, do := range []call{fixed(8), take(8), take(math.MaxUint32)} {
		for _, s := range []string{"", "\x00", "\x00\x00\x00\x00\x00\x00\x00", "\x60\x00\x00\x7f\x40\x00\x01"} {
			c := New([]byte(s))
			expect(t, c, do, do.none, state{0, len(s), api.ErrEnd})
			expectStill(t, c)
		}
	}
}

// P17.4, and all the others at once, against the chapter's words

func TestAllOfTwoBytes(t *testing.T) {
	list := []call{anyByte, u32, s32, s64, name, count, value, results, limits, global, table, funcType, take(2), fixed(4)}
	for i := range 1 << 16 {
		s := string([]byte{byte(i >> 8), byte(i)})
		for _, do := range list {
			c := New([]byte(s))
			answer, length, e := do.form(s)
			expect(t, c, do, answer, state{length, 2 - length, e})
		}
	}
}

// edges: bytes that mean something to one of the calls, and those beside them.
var edges = []byte{0, 1, 2, 3, 0x0f, 0x10, 0x20, 0x3f, 0x40, 0x41, 0x5f, 0x60, 0x61, 0x6f, 0x70, 0x71, 0x77, 0x78, 0x7b, 0x7c, 0x7d, 0x7e, 0x7f, 0x80, 0x81, 0xa9, 0xbf, 0xc0, 0xc3, 0xe2, 0xf0, 0xff}

func TestEdgesOfThreeBytes(t *testing.T) {
	for _, x := range edges {
		for _, y := range edges {
			for _, z := range edges {
				s := string([]byte{x, y, z})
				for _, do := range []call{u32, name, limits, table, funcType} {
					expectForm(t, s, 0, do)
				}
			}
		}
	}
}

// TestEdgesOfFour: behind a first byte that leads to more.
func TestEdgesOfFour(t *testing.T) {
	for _, w := range []struct {
		do    call
		ahead string
	}{{limits, "\x01"}, {table, "\x70"}, {table, "\x70\x01"}, {funcType, "\x60"}, {funcType, "\x60\x01\x7f"}, {name, "\x03"}} {
		for _, x := range edges {
			for _, y := range edges {
				for _, z := range edges {
					expectForm(t, w.ahead+string([]byte{x, y, z}), 0, w.do)
				}
			}
		}
	}
}

// TestNearSamples: each sample with each of its bytes as each edge, and one byte fewer or more.
func TestNearSamples(t *testing.T) {
	for _, w := range samples() {
		if len(w.bytes) > 20 {
			continue
		}
		for i := range len(w.bytes) {
			for _, other := range edges {
				s := w.bytes[:i] + string([]byte{other}) + w.bytes[i+1:]
				expectForm(t, s, 0, w.do)
				expectForm(t, s+"\x00", 0, w.do)
				expectForm(t, w.bytes[:i]+string([]byte{other})+w.bytes[i:], 0, w.do)
			}
			expectForm(t, w.bytes[:i]+w.bytes[i+1:], 0, w.do)
		}
		expectForms(t, w.bytes)
	}
}

// TestRows: rows of calls without a pattern, of bytes that are mostly what they read: behind each of them the answer, the place and the failure are the chapter's, and behind the first failure nothing moves.
func TestRows(t *testing.T) {
	list := samples()
	every := calls()
	failed, ended := 0, 0
	for i, n := range words(4000) {
		draw := func(below int) int {
			n = n*0x5851f42d4c957f2d + 0x14057b7ef767814f
			return int((n ^ n>>33) >> 8 % uint64(below))
		}
		s := ""
		var row []call
		for range i % 17 {
			w := list[draw(len(list))]
			s += w.bytes
			if draw(20) == 0 {
				w.do = every[draw(len(every))]
			}
			row = append(row, w.do)
		}
		if s != "" && i%3 == 0 {
			b := []byte(s)
			b[draw(len(b))] = byte(draw(256))
			s = string(b)
		}
		c := New([]byte(s))
		at, e := 0, api.OK
		for _, do := range row {
			answer, length := do.none, 0
			if e == api.OK {
				answer, length, e = do.form(s[at:])
			}
			at += length
			expect(t, c, do, answer, state{at, len(s) - at, e})
		}
		if e != api.OK {
			failed++
			expectStill(t, c)
		} else {
			ended++
		}
	}
	if failed < 500 || ended < 500 {
		t.Errorf("%d rows failed, %d did not", failed, ended)
	}
}

// TestOneByOne: what is made of others is what they read one behind the other.
func TestOneByOne(t *testing.T) {
	s := "\x70\x01\x85\x01\x07\x7e\x01\x02\xc3\xa9\x60\x02\x7f\x7e\x01\x7d"
	parts, all := New([]byte(s)), New([]byte(s))
	same := func(got, want any) {
		t.Helper()
		if text(got) != text(want) || stateOf(parts) != stateOf(all) {
			t.Fatalf("%v at %+v, not %v at %+v", got, stateOf(all), want, stateOf(parts))
		}
	}
	if parts.Byte() != 0x70 || parts.Byte() != 1 {
		t.Fatal("not a table")
	}
	same(all.Table(), api.Limits{Has: true, Min: parts.U32(), Max: parts.U32()})
	same(all.Global(), api.GlobalType{Type: parts.Value(), Mut: parts.Byte() == 1})
	same(all.Name(), string(parts.Take(parts.U32())))
	if parts.Byte() != 0x60 || parts.Count() != 2 {
		t.Fatal("not a function of two")
	}
	params := []byte{parts.Value(), parts.Value()}
	if parts.Count() != 1 {
		t.Fatal("not one result")
	}
	same(all.Func(), api.FuncType{Params: params, Results: []byte{parts.Value()}})
	expectState(t, all, state{len(s), 0, api.OK})
}

// A cursor that is nil, and one that New did not make

func TestNil(t *testing.T) {
	var c *Cursor
	expectState(t, c, state{0, 0, api.ErrNil})
	for _, do := range calls() {
		if got := do.do(c); got != do.none {
			t.Errorf("%s of nil: %s", do.name, got)
		}
		expectState(t, c, state{0, 0, api.ErrNil})
	}
	for _, e := range append(errnos, api.OK) {
		c.Fail(e)
		expectState(t, c, state{0, 0, api.ErrNil})
	}
}

// TestNotMade: it has no bytes, and is else a cursor.
func TestNotMade(t *testing.T) {
	expectState(t, &Cursor{}, state{0, 0, api.OK})
	for _, do := range calls() {
		_, _, e := do.form("")
		c := new(Cursor)
		expect(t, c, do, do.none, state{0, 0, e})
		if e == api.OK { // Take of 0
			expect(t, c, anyByte, anyByte.none, state{0, 0, api.ErrEnd})
		}
		expectStill(t, c)
	}
	for _, e := range errnos {
		var c Cursor
		c.Fail(api.OK)
		expectState(t, &c, state{0, 0, api.OK})
		c.Fail(e)
		expectState(t, &c, state{0, 0, e})
		expectStill(t, &c)
	}
}

// TestApart: cursors of the same bytes have places and failures of their own.
func TestApart(t *testing.T) {
	b := []byte("\x05\x06\x07")
	x, y := New(b), New(b)
	expect(t, x, anyByte, text(byte(5)), state{1, 2, api.OK})
	expectState(t, y, state{0, 3, api.OK})
	x.Fail(api.ErrOp)
	expectState(t, y, state{0, 3, api.OK})
	expect(t, y, take(3), text(b), state{3, 0, api.OK})
	expectState(t, x, state{1, 2, api.ErrOp})
}

// DOC.md's rules

// TestHandedInStays: the bytes that are handed to New, and those behind their length in their memory, stay as they were, whatever is read.
func TestHandedInStays(t *testing.T) {
	for _, w := range samples() {
		memory := []byte(w.bytes + w.bytes + "\xffspare")
		was := string(memory)
		for length := range min(len(memory), 60) + 1 {
			for _, do := range []call{w.do, take(uint32(length)), name, funcType} {
				c := New(memory[:length])
				do.do(c)
				do.do(c)
				for b := c.Take(uint32(c.Left())); len(b) > 0; b = b[1:] {
					b[0] ^= 0xff
				}
				c.Fail(api.ErrOp)
				if string(memory) != was {
					t.Fatalf("%s: % x were % x", do.name, memory, was)
				}
			}
		}
	}
}

// TestNotKept: what becomes of the bytes behind New changes nothing.
func TestNotKept(t *testing.T) {
	for _, w := range samples() {
		memory := []byte(w.bytes + "ab")
		c := New(memory)
		for i := range memory {
			memory[i] ^= 0xff
		}
		expect(t, c, w.do, w.answer, state{len(w.bytes), 2, api.OK})
		for i := range memory {
			memory[i] = 0
		}
		expect(t, c, take(2), text([]byte("ab")), state{len(memory), 0, api.OK})
	}
}

// TestBehindTheLength: what lies behind a list's length in its memory isn't read.
func TestBehindTheLength(t *testing.T) {
	for _, w := range samples() {
		memory := []byte(w.bytes + "\x00\x00\x00\x00")
		for length := range len(w.bytes) {
			expect(t, New(memory[:length]), w.do, w.do.none, state{0, length, api.ErrEnd})
		}
		c := New(memory[:len(w.bytes)])
		expect(t, c, w.do, w.answer, state{len(w.bytes), 0, api.OK})
		expect(t, c, anyByte, text(byte(0)), state{len(w.bytes), 0, api.ErrEnd})
	}
}

// spoil writes to all of a list's memory, its spare room too.
func spoil(b []byte) {
	b = b[:cap(b)]
	for i := range b {
		b[i] ^= 0xff
	}
}

// TestNewMemory: what is handed out is memory of its own, to the end of its spare room: writing to it changes neither what is read later nor another list of the answer.
func TestNewMemory(t *testing.T) {
	const s = "abcdefghijklmnopqrstuvwxyz"
	for n := range len(s) + 1 {
		c := New([]byte(s))
		b := c.Take(uint32(n))
		spoil(b)
		rest := c.Take(uint32(len(s) - n))
		if string(rest) != s[n:] {
			t.Fatalf("behind Take(%d): %s", n, rest)
		}
		was := string(b)
		spoil(rest)
		if string(b) != was {
			t.Fatalf("Take(%d) shares memory with what is behind it", n)
		}
	}
	for _, w := range samples() {
		if w.do.name != "Func" {
			continue
		}
		c := New([]byte(w.bytes + w.bytes))
		f := c.Func()
		params := string(f.Params)
		spoil(f.Results)
		if string(f.Params) != params {
			t.Fatalf("the lists of % x share memory", w.bytes)
		}
		again := string(f.Results)
		spoil(f.Params)
		if string(f.Results) != again {
			t.Fatalf("the lists of % x share memory", w.bytes)
		}
		expect(t, c, w.do, w.answer, state{2 * len(w.bytes), 0, api.OK})
	}
}

// TestNamesStay: a name stays as it is, whatever becomes of the bytes it was read from.
func TestNamesStay(t *testing.T) {
	memory := []byte("\x03abc\x03def")
	c := New(memory)
	first := c.Name()
	spoil(memory)
	if second := c.Name(); first != "abc" || second != "def" {
		t.Errorf("%q, %q", first, second)
	}
}
