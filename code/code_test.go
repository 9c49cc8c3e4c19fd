package code

import (
	"fmt"
	"slices"
	"strings"
	"testing"

	"trunnion/api"
	"trunnion/scan"
)

// What the tests lean on

// text: instructions as a text, in which a list without an element is the same, nil or not.
func text(x any) string { return fmt.Sprintf("%+v", x) }

// state: all that a cursor tells of itself.
type state struct {
	at, left int
	e        api.Errno
}

func stateOf(c *scan.Cursor) state { return state{c.At(), c.Left(), c.Err()} }

// newAt: a cursor at a place.
func newAt(t *testing.T, s string, at int) *scan.Cursor {
	t.Helper()
	c := scan.New([]byte(s))
	c.Take(uint32(at))
	if got := stateOf(c); got != (state{at, len(s) - at, api.OK}) {
		t.Fatalf("Take(%d) of % x: %+v", at, s, got)
	}
	return c
}

// expectAt holds what is read at a place, and where the cursor is behind it, against what is wanted.
func expectAt(t *testing.T, s string, at int, sat bool, want []api.Instr, behind int, e api.Errno) {
	t.Helper()
	c := newAt(t, s, at)
	got := Expr(c, sat)
	if text(got) != text(want) {
		t.Fatalf("% .80x, %v: %.300s, not %.300s", s[at:], sat, text(got), text(want))
	}
	if now := stateOf(c); now != (state{behind, len(s) - behind, e}) {
		t.Fatalf("% .80x, %v: %+v, not at %d with %d", s[at:], sat, now, behind, e)
	}
}

// expectRead: s begins with the expression of these instructions, which has so many bytes.
func expectRead(t *testing.T, s string, sat bool, want []api.Instr, length int) {
	t.Helper()
	expectAt(t, s, 0, sat, want, length, api.OK)
}

// expectFailure: s fails with e, and the cursor stands at that place.
func expectFailure(t *testing.T, s string, sat bool, e api.Errno, at int) {
	t.Helper()
	expectAt(t, s, 0, sat, nil, at, e)
}

// dice: numbers without a pattern, the same at each run.
type dice struct{ x uint64 }

func newDice() *dice { return &dice{0x9e3779b97f4a7c15} }

func (d *dice) next() uint64 {
	d.x ^= d.x << 13
	d.x ^= d.x >> 7
	d.x ^= d.x << 17
	return d.x
}

// below: a number from 0 to n - 1.
func (d *dice) below(n int) int { return int(d.next() >> 1 % uint64(n)) }

// number: one that is more often small, or near a power of two, than great.
func (d *dice) number() uint64 {
	switch d.below(4) {
	case 0:
		return uint64(d.below(8))
	case 1:
		return uint64(1)<<d.below(64) + uint64(d.below(3)) - 1
	case 2:
		return d.next() >> d.below(64)
	}
	return -uint64(d.below(200))
}

// The chapter's words, written out

// kind: what stands behind an opcode's byte, by the list of layer 18's chapter: a letter for each part.
// b: a block's type and an expression; e: the same of an if; u: U32 (A); v: U32 (B); l: Count and so many U32; 0: a byte 0; s, S: S32, S64; f, F: Fixed of 4, of 8; -: it is no opcode; m: else and end.
func kind(b byte) string {
	in := func(from, to byte) bool { return from <= b && b <= to }
	switch {
	case in(0x02, 0x03):
		return "b"
	case b == 0x04:
		return "e"
	case b == 0x05, b == 0x0b:
		return "m"
	case in(0x0c, 0x0d), b == 0x10, in(0x20, 0x24):
		return "u"
	case b == 0x0e:
		return "lu"
	case b == 0x11:
		return "u0"
	case in(0x28, 0x3e):
		return "uv"
	case in(0x3f, 0x40):
		return "0"
	case in(0x41, 0x44):
		return "sSfF"[b-0x41 : b-0x40]
	case in(0x00, 0x01), b == 0x0f, in(0x1a, 0x1b), in(0x45, 0xbf):
		return ""
	}
	return "-"
}

// broken: a failure, and where the cursor stands then.
type broken struct {
	e  api.Errno
	at int
}

// model: an expression read by the chapter's words, from a place on; what fails is thrown.
type model struct {
	s    string
	at   int
	sat  bool
	deep int
}

// read: what Expr should answer at a place, and where the cursor should stand behind it.
func read(s string, at int, sat bool) (list []api.Instr, behind int, e api.Errno) {
	m := &model{s: s, at: at, sat: sat}
	defer func() {
		if r := recover(); r != nil {
			b := r.(broken)
			list, behind, e = nil, b.at, b.e
		}
	}()
	list, _ = m.expr(false)
	return list, m.at, api.OK
}

// take: the next n bytes, of a call that began at a place.
func (m *model) take(n, from int) string {
	if len(m.s)-m.at < n {
		panic(broken{api.ErrEnd, from})
	}
	m.at += n
	return m.s[m.at-n : m.at]
}

// leb: a number by layer 15's form, its bits as they stand there, and how many they are.
func (m *model) leb(bits int) (n uint64, have int) {
	from := m.at
	for have = 7; ; have += 7 {
		b := m.take(1, from)[0]
		n |= uint64(b&127) << (have - 7)
		if b < 128 {
			return n, have
		}
		if have >= bits {
			panic(broken{api.ErrLeb, from})
		}
	}
}

// unsigned: U32.
func (m *model) unsigned() uint32 {
	from := m.at
	n, _ := m.leb(32)
	if n >= 1<<32 {
		panic(broken{api.ErrLeb, from})
	}
	return uint32(n)
}

// signed: S32 or S64, in 64 bits.
func (m *model) signed(bits int) uint64 {
	from := m.at
	n, have := m.leb(bits)
	last := int64(m.s[m.at-1]) << 57 >> 57
	if left := bits - have + 7; left < 7 && (last < -1<<(left-1) || last >= 1<<(left-1)) {
		panic(broken{api.ErrLeb, from})
	}
	if have < 64 && last < 0 {
		n |= ^uint64(0) << have
	}
	return n
}

// fixed: n bytes, the lowest first.
func (m *model) fixed(n int) (number uint64) {
	for i, b := range []byte(m.take(n, m.at)) {
		number |= uint64(b) << (8 * i)
	}
	return number
}

// typeOf: a block's type.
func (m *model) typeOf() byte {
	b := m.take(1, m.at)[0]
	switch b {
	case 0x40:
		return 0
	case 0x7f, 0x7e, 0x7d, 0x7c:
		return b
	}
	panic(broken{api.ErrType, m.at - 1})
}

// labels: Count and so many U32.
func (m *model) labels() (list []uint32) {
	from := m.at
	n := m.unsigned()
	if n > 4096 {
		panic(broken{api.ErrLimit, from})
	}
	for range n {
		list = append(list, m.unsigned())
	}
	return list
}

// expr: instructions up to 0b or, where it may be, 05, and whether it was 05.
func (m *model) expr(orElse bool) (list []api.Instr, isElse bool) {
	for {
		from := m.at
		op := m.take(1, from)[0]
		switch {
		case op == 0x0b:
			return list, false
		case op == 0x05 && orElse:
			return list, true
		case op == 0x05, kind(op) == "-" && !(op == 0xfc && m.sat):
			panic(broken{api.ErrOp, from})
		}
		list = append(list, m.instr(op, from))
	}
}

func (m *model) instr(op byte, from int) api.Instr {
	if op == 0xfc {
		n := m.unsigned()
		if n > 7 {
			panic(broken{api.ErrOp, m.at})
		}
		return api.Instr{Op: 0xfc00 + int(n)}
	}
	in := api.Instr{Op: int(op)}
	for _, part := range kind(op) {
		switch part {
		case 'b', 'e':
			m.block(&in, part == 'e', from)
		case 'u':
			in.A = m.unsigned()
		case 'v':
			in.B = m.unsigned()
		case 'l':
			in.List = m.labels()
		case '0':
			if m.take(1, m.at) != "\x00" {
				panic(broken{api.ErrByte, m.at})
			}
		case 's':
			in.Bits = m.signed(32) & (1<<32 - 1)
		case 'S':
			in.Bits = m.signed(64)
		case 'f':
			in.Bits = m.fixed(4)
		case 'F':
			in.Bits = m.fixed(8)
		}
	}
	return in
}

func (m *model) block(in *api.Instr, isIf bool, from int) {
	if m.deep == 64 {
		panic(broken{api.ErrLimit, from})
	}
	in.Type = m.typeOf()
	m.deep++
	in.Then, in.Has = m.expr(isIf)
	if in.Has {
		in.Else, _ = m.expr(false)
	}
	m.deep--
}

// expectModel holds what is read at a place, with sat and without, against the chapter's words.
func expectModel(t *testing.T, s string, at int) {
	t.Helper()
	for _, sat := range []bool{false, true} {
		want, behind, e := read(s, at, sat)
		expectAt(t, s, at, sat, want, behind, e)
	}
}

// Instructions of every kind

// sample: the bytes of an instruction, and what they are.
type sample struct {
	bytes string
	want  api.Instr
}

// numbers: those of a row, from 0 on.
func numbers(n int) (list []uint32) {
	for i := range n {
		list = append(list, uint32(i))
	}
	return list
}

// manyLabels: a br_table's bytes of so many labels, which is at least 128: those of numbers, and 5.
func manyLabels(n int) string {
	s := "\x0e" + string([]byte{byte(n | 128), byte(n >> 7)})
	for i := range n {
		s += string([]byte{byte(i | 128), byte(i >> 7)})
	}
	return s + "\x05"
}

// samples: of every kind of what stands behind an opcode, with all fields.
func samples() []sample {
	list := []sample{
		{"\x00", api.Instr{Op: 0x00}},
		{"\x01", api.Instr{Op: 0x01}},
		{"\x0f", api.Instr{Op: 0x0f}},
		{"\x1a", api.Instr{Op: 0x1a}},
		{"\x1b", api.Instr{Op: 0x1b}},
		{"\x45", api.Instr{Op: 0x45}},
		{"\x6a", api.Instr{Op: 0x6a}},
		{"\xbf", api.Instr{Op: 0xbf}},

		{"\x02\x40\x0b", api.Instr{Op: 0x02}},
		{"\x02\x7f\x0b", api.Instr{Op: 0x02, Type: api.I32}},
		{"\x03\x7e\x01\x0b", api.Instr{Op: 0x03, Type: api.I64, Then: []api.Instr{{Op: 0x01}}}},
		{"\x02\x7d\x00\x01\x00\x0b", api.Instr{Op: 0x02, Type: api.F32, Then: []api.Instr{{Op: 0x00}, {Op: 0x01}, {Op: 0x00}}}},
		{"\x03\x40\x0b", api.Instr{Op: 0x03}},
		{"\x04\x7c\x0b", api.Instr{Op: 0x04, Type: api.F64}},
		{"\x04\x40\x01\x0b", api.Instr{Op: 0x04, Then: []api.Instr{{Op: 0x01}}}},
		{"\x04\x40\x05\x0b", api.Instr{Op: 0x04, Has: true}},
		{"\x04\x7f\x01\x05\x0b", api.Instr{Op: 0x04, Type: api.I32, Then: []api.Instr{{Op: 0x01}}, Has: true}},
		{"\x04\x7e\x05\x00\x0b", api.Instr{Op: 0x04, Type: api.I64, Has: true, Else: []api.Instr{{Op: 0x00}}}},
		{"\x04\x40\x01\x05\x00\x0f\x0b", api.Instr{Op: 0x04, Then: []api.Instr{{Op: 0x01}}, Has: true, Else: []api.Instr{{Op: 0x00}, {Op: 0x0f}}}},
		{"\x02\x40\x03\x40\x01\x0b\x00\x0b", api.Instr{Op: 0x02, Then: []api.Instr{{Op: 0x03, Then: []api.Instr{{Op: 0x01}}}, {Op: 0x00}}}},
		{"\x04\x40\x04\x40\x05\x01\x0b\x0b", api.Instr{Op: 0x04, Then: []api.Instr{{Op: 0x04, Has: true, Else: []api.Instr{{Op: 0x01}}}}}},
		{"\x04\x40\x04\x40\x0b\x05\x04\x40\x05\x0b\x01\x0b", api.Instr{Op: 0x04, Then: []api.Instr{{Op: 0x04}}, Has: true, Else: []api.Instr{{Op: 0x04, Has: true}, {Op: 0x01}}}},

		{"\x0c\x00", api.Instr{Op: 0x0c}},
		{"\x0c\x05", api.Instr{Op: 0x0c, A: 5}},
		{"\x0d\xe5\x8e\x26", api.Instr{Op: 0x0d, A: 624485}},
		{"\x0d\xff\xff\xff\xff\x0f", api.Instr{Op: 0x0d, A: 4294967295}},
		{"\x0e\x00\x00", api.Instr{Op: 0x0e}},
		{"\x0e\x00\x03", api.Instr{Op: 0x0e, A: 3}},
		{"\x0e\x01\x02\x03", api.Instr{Op: 0x0e, List: []uint32{2}, A: 3}},
		{"\x0e\x03\x00\x80\x01\xff\xff\xff\xff\x0f\x80\x02", api.Instr{Op: 0x0e, List: []uint32{0, 128, 4294967295}, A: 256}},
		{"\x0e\x82\x80\x00\x81\x00\x07\x00", api.Instr{Op: 0x0e, List: []uint32{1, 7}}}, // in more bytes than it needs
		{manyLabels(128), api.Instr{Op: 0x0e, List: numbers(128), A: 5}},
		{manyLabels(4096), api.Instr{Op: 0x0e, List: numbers(4096), A: 5}}, // MaxItems
		{"\x10\x80\x01", api.Instr{Op: 0x10, A: 128}},
		{"\x20\x00", api.Instr{Op: 0x20}},
		{"\x21\x01", api.Instr{Op: 0x21, A: 1}},
		{"\x22\x7f", api.Instr{Op: 0x22, A: 127}},
		{"\x23\x80\x80\x80\x80\x08", api.Instr{Op: 0x23, A: 2147483648}},
		{"\x24\x85\x80\x80\x80\x00", api.Instr{Op: 0x24, A: 5}},
		{"\x11\x00\x00", api.Instr{Op: 0x11}},
		{"\x11\x07\x00", api.Instr{Op: 0x11, A: 7}},
		{"\x11\xff\xff\xff\xff\x0f\x00", api.Instr{Op: 0x11, A: 4294967295}},
		{"\x28\x02\x08", api.Instr{Op: 0x28, A: 2, B: 8}},
		{"\x30\x00\x00", api.Instr{Op: 0x30}},
		{"\x37\x80\x00\x81\x80\x00", api.Instr{Op: 0x37, B: 1}},
		{"\x3e\xff\xff\xff\xff\x0f\x80\x80\x80\x80\x08", api.Instr{Op: 0x3e, A: 4294967295, B: 2147483648}},
		{"\x3f\x00", api.Instr{Op: 0x3f}},
		{"\x40\x00", api.Instr{Op: 0x40}},

		{"\x41\x07", api.Instr{Op: 0x41, Bits: 7}},
		{"\x41\x7f", api.Instr{Op: 0x41, Bits: 4294967295}},
		{"\x41\x80\x7f", api.Instr{Op: 0x41, Bits: 4294967168}},
		{"\x41\xff\xff\xff\xff\x07", api.Instr{Op: 0x41, Bits: 2147483647}},
		{"\x41\x80\x80\x80\x80\x78", api.Instr{Op: 0x41, Bits: 2147483648}},
		{"\x41\xff\xff\xff\xff\x7f", api.Instr{Op: 0x41, Bits: 4294967295}},
		{"\x42\x07", api.Instr{Op: 0x42, Bits: 7}},
		{"\x42\x7f", api.Instr{Op: 0x42, Bits: 18446744073709551615}},
		{"\x42\xff\xff\xff\xff\xff\xff\xff\xff\xff\x00", api.Instr{Op: 0x42, Bits: 9223372036854775807}},
		{"\x42\x80\x80\x80\x80\x80\x80\x80\x80\x80\x7f", api.Instr{Op: 0x42, Bits: 9223372036854775808}},
		{"\x43\x01\x02\x03\x84", api.Instr{Op: 0x43, Bits: 0x84030201}},
		{"\x43\x0b\x0b\x05\x0b", api.Instr{Op: 0x43, Bits: 0x0b050b0b}},
		{"\x44\x01\x02\x03\x04\x05\x06\x07\x88", api.Instr{Op: 0x44, Bits: 0x8807060504030201}},
	}
	return list
}

// satSamples: those that sat lets in.
func satSamples() (list []sample) {
	for n := range 8 {
		list = append(list,
			sample{"\xfc" + string(rune(n)), api.Instr{Op: 0xfc00 + n}},
			sample{"\xfc" + string([]byte{byte(n | 128), 0}), api.Instr{Op: 0xfc00 + n}},
			sample{"\xfc" + string([]byte{byte(n | 128), 128, 128, 128, 0}), api.Instr{Op: 0xfc00 + n}})
	}
	return list
}

func TestExamples(t *testing.T) {
	want := []api.Instr{{Op: 0x41, Bits: 7}, {Op: 0x1a}}
	expectRead(t, "\x41\x07\x1a\x0b", false, want, 4)
	if Size(want) != 2 || Depth(want) != 0 {
		t.Error(Size(want), Depth(want))
	}
}

// TestNothing: an expression without an instruction.
func TestNothing(t *testing.T) {
	expectRead(t, "\x0b", false, nil, 1)
	expectRead(t, "\x0b", true, nil, 1)
	expectRead(t, "\x0b\x0b", false, nil, 1)
}

// TestSamples: each alone, with sat and without.
func TestSamples(t *testing.T) {
	for _, x := range samples() {
		for _, sat := range []bool{false, true} {
			expectRead(t, x.bytes+"\x0b", sat, []api.Instr{x.want}, len(x.bytes)+1)
		}
	}
	for _, x := range satSamples() {
		expectRead(t, x.bytes+"\x0b", true, []api.Instr{x.want}, len(x.bytes)+1)
		expectFailure(t, x.bytes+"\x0b", false, api.ErrOp, 0)
	}
}

// TestInBlocks: each with others beside it, in blocks of each kind, in Then and Else.
func TestInBlocks(t *testing.T) {
	nop := api.Instr{Op: 0x01}
	for _, x := range append(samples(), satSamples()...) {
		row := []api.Instr{nop, x.want, x.want, nop}
		bytes := "\x01" + x.bytes + x.bytes + "\x01"
		expectRead(t, bytes+"\x0b", true, row, len(bytes)+1)
		for _, around := range []struct {
			ahead, behind string
			want          api.Instr
		}{
			{"\x02\x40", "", api.Instr{Op: 0x02, Then: row}},
			{"\x03\x7f", "", api.Instr{Op: 0x03, Type: api.I32, Then: row}},
			{"\x04\x7e", "", api.Instr{Op: 0x04, Type: api.I64, Then: row}},
			{"\x04\x7d", "\x05", api.Instr{Op: 0x04, Type: api.F32, Then: row, Has: true}},
			{"\x04\x7c\x05", "", api.Instr{Op: 0x04, Type: api.F64, Has: true, Else: row}},
			{"\x04\x7c\x00\x05", "", api.Instr{Op: 0x04, Type: api.F64, Then: []api.Instr{{}}, Has: true, Else: row}},
		} {
			s := around.ahead + bytes + around.behind + "\x0b"
			expectRead(t, s+"\x0b", true, []api.Instr{around.want}, len(s)+1)
			expectRead(t, s+"\x01\x0b", true, []api.Instr{around.want, nop}, len(s)+2)
		}
	}
}

// TestCutOff: bytes that end behind each part of each instruction; and the place is behind the last whole one.
func TestCutOff(t *testing.T) {
	for _, x := range append(samples(), satSamples()...) {
		if len(x.bytes) > 1000 {
			continue
		}
		whole := "\x01" + x.bytes + "\x0b"
		for n := range len(whole) {
			expectModel(t, whole[:n], 0)
			c := scan.New([]byte(whole[:n]))
			if l := Expr(c, true); len(l) != 0 || c.Err() != api.ErrEnd {
				t.Fatalf("% x: %v %d", whole[:n], l, c.Err())
			}
		}
	}
	many := manyLabels(4096)
	expectFailure(t, many, false, api.ErrEnd, len(many))
	expectFailure(t, many[:len(many)-1], false, api.ErrEnd, len(many)-1)
	expectFailure(t, many[:len(many)-2], false, api.ErrEnd, len(many)-3)
	expectFailure(t, many[:3], false, api.ErrEnd, 3)
	expectFailure(t, many[:2], false, api.ErrEnd, 1)
}

// What fails

// fault: bytes that are no expression, with which failure, and where the cursor stands then.
type fault struct {
	bytes string
	e     api.Errno
	at    int
}

// faults: those that fail so whatever sat is.
func faults() []fault {
	return []fault{
		// The bytes end.
		{"", api.ErrEnd, 0},
		{"\x01", api.ErrEnd, 1},
		{"\x02", api.ErrEnd, 1},
		{"\x02\x40", api.ErrEnd, 2},
		{"\x02\x40\x0b", api.ErrEnd, 3},
		{"\x04\x40\x05", api.ErrEnd, 3},
		{"\x04\x40\x05\x0b", api.ErrEnd, 4},
		{"\x0c", api.ErrEnd, 1},
		{"\x0c\x80", api.ErrEnd, 1},
		{"\x0e", api.ErrEnd, 1},
		{"\x0e\x00", api.ErrEnd, 2},
		{"\x0e\x02\x00", api.ErrEnd, 3},
		{"\x0e\x02\x00\x80", api.ErrEnd, 3},
		{"\x0e\x02\x00\x01", api.ErrEnd, 4},
		{"\x0e\x02\x00\x01\x80\x80", api.ErrEnd, 4},
		{"\x10", api.ErrEnd, 1},
		{"\x11", api.ErrEnd, 1},
		{"\x11\x80", api.ErrEnd, 1},
		{"\x11\x00", api.ErrEnd, 2},
		{"\x28", api.ErrEnd, 1},
		{"\x28\x02", api.ErrEnd, 2},
		{"\x28\x02\x80", api.ErrEnd, 2},
		{"\x3f", api.ErrEnd, 1},
		{"\x40", api.ErrEnd, 1},
		{"\x41", api.ErrEnd, 1},
		{"\x41\xff\xff\xff\xff", api.ErrEnd, 1},
		{"\x42", api.ErrEnd, 1},
		{"\x42\x80\x80\x80\x80\x80\x80\x80\x80\x80", api.ErrEnd, 1},
		{"\x43", api.ErrEnd, 1},
		{"\x43\x0b\x0b\x0b", api.ErrEnd, 1},
		{"\x44\x0b\x0b\x0b\x0b\x0b\x0b\x0b", api.ErrEnd, 1},
		{"\x01\x02\x40\x41\x07", api.ErrEnd, 5},

		// No opcode, and none behind it is read.
		{"\x06\x0b", api.ErrOp, 0},
		{"\x06", api.ErrOp, 0},
		{"\x01\x06\x0b", api.ErrOp, 1},
		{"\xff\x0b", api.ErrOp, 0},
		{"\xc0\x0b", api.ErrOp, 0},
		{"\x25\x00\x0b", api.ErrOp, 0},
		{"\x41\x07\x1c\x0b", api.ErrOp, 2},
		{"\x02\x40\x27\x0b\x0b", api.ErrOp, 2},
		{"\x04\x40\x01\x05\x01\x12\x0b\x0b", api.ErrOp, 5},

		// 05 where none may be.
		{"\x05", api.ErrOp, 0},
		{"\x05\x0b", api.ErrOp, 0},
		{"\x01\x05\x0b", api.ErrOp, 1},
		{"\x02\x40\x05\x0b\x0b", api.ErrOp, 2},
		{"\x02\x40\x01\x05\x0b\x0b", api.ErrOp, 3},
		{"\x03\x7f\x05\x0b\x0b", api.ErrOp, 2},
		{"\x03\x7f\x01\x05\x01\x0b\x0b", api.ErrOp, 3},
		{"\x04\x40\x05\x05\x0b\x0b", api.ErrOp, 3},
		{"\x04\x40\x05\x01\x05\x0b\x0b", api.ErrOp, 4},
		{"\x04\x40\x0b\x05\x0b", api.ErrOp, 3},
		{"\x04\x40\x05\x0b\x05\x0b", api.ErrOp, 4},
		{"\x04\x40\x02\x40\x05\x0b\x0b\x0b", api.ErrOp, 4},
		{"\x04\x40\x03\x40\x01\x05\x0b\x0b\x0b", api.ErrOp, 5},
		{"\x04\x40\x05\x02\x40\x05\x0b\x0b\x0b", api.ErrOp, 5},
		{"\x04\x40\x05\x04\x40\x0b\x05\x0b\x0b", api.ErrOp, 6},
		{"\x04\x40\x04\x40\x05\x05\x0b\x0b\x0b", api.ErrOp, 5},
		{"\x02\x40\x04\x40\x05\x0b\x05\x0b\x0b", api.ErrOp, 6},

		// A byte that must be 0 and isn't.
		{"\x11\x00\x01\x0b", api.ErrByte, 3},
		{"\x11\x80\x00\xff\x0b", api.ErrByte, 4},
		{"\x11\x07\x0b\x0b", api.ErrByte, 3},
		{"\x11\x00\x80\x00\x0b", api.ErrByte, 3}, // a number 0, but no byte 0
		{"\x11\x00\x01", api.ErrByte, 3},
		{"\x3f\x01\x0b", api.ErrByte, 2},
		{"\x3f\x80\x00\x0b", api.ErrByte, 2},
		{"\x40\x01\x0b", api.ErrByte, 2},
		{"\x40\x0b", api.ErrByte, 2},
		{"\x02\x40\x01\x40\xff\x0b\x0b", api.ErrByte, 5},

		// A block's type that is none.
		{"\x02\x41\x0b\x0b", api.ErrType, 1},
		{"\x03\x00\x0b\x0b", api.ErrType, 1},
		{"\x04\x70\x05\x0b\x0b", api.ErrType, 1},
		{"\x02\x7b\x0b\x0b", api.ErrType, 1},
		{"\x02\xc0\x7f\x0b\x0b", api.ErrType, 1},
		{"\x04\x40\x05\x03\x80\x0b\x0b\x0b", api.ErrType, 4},

		// No number, of each kind.
		{"\x0c\x80\x80\x80\x80\x10\x0b", api.ErrLeb, 1},
		{"\x0d\x80\x80\x80\x80\x80\x00\x0b", api.ErrLeb, 1},
		{"\x0e\x80\x80\x80\x80\x10\x0b", api.ErrLeb, 1},
		{"\x0e\x01\x80\x80\x80\x80\x10\x0b", api.ErrLeb, 2},
		{"\x0e\x01\x00\x80\x80\x80\x80\x10\x0b", api.ErrLeb, 3},
		{"\x0e\x02\x80\x80\x80\x80\x10\x80\x80\x80\x80\x10\x0b", api.ErrLeb, 2},
		{"\x24\xff\xff\xff\xff\x1f\x0b", api.ErrLeb, 1},
		{"\x11\xff\xff\xff\xff\x7f\x01\x0b", api.ErrLeb, 1},
		{"\x28\xff\xff\xff\xff\x1f\x00\x0b", api.ErrLeb, 1},
		{"\x28\x00\xff\xff\xff\xff\x1f\x0b", api.ErrLeb, 2},
		{"\x41\xff\xff\xff\xff\x08\x0b", api.ErrLeb, 1},
		{"\x41\x80\x80\x80\x80\x70\x0b", api.ErrLeb, 1},
		{"\x41\x80\x80\x80\x80\x80\x00\x0b", api.ErrLeb, 1},
		{"\x42\x80\x80\x80\x80\x80\x80\x80\x80\x80\x01\x0b", api.ErrLeb, 1},
		{"\x42\xff\xff\xff\xff\xff\xff\xff\xff\xff\x7e\x0b", api.ErrLeb, 1},

		// Labels, more than MaxItems.
		{"\x0e\x81\x20\x00\x0b", api.ErrLimit, 1},
		{manyLabels(4097) + "\x0b", api.ErrLimit, 1},
		{"\x0e\x81\x20", api.ErrLimit, 1},
		{"\x01\x0e\xff\xff\xff\xff\x0f\x00\x0b", api.ErrLimit, 2},
	}
}

// TestFaults: with sat and without, and with anything behind them where the bytes' end isn't what fails.
func TestFaults(t *testing.T) {
	for _, x := range faults() {
		for _, sat := range []bool{false, true} {
			expectFailure(t, x.bytes, sat, x.e, x.at)
			if x.e != api.ErrEnd {
				expectFailure(t, x.bytes+"\x0b\x0b\x00\xff", sat, x.e, x.at)
			}
		}
	}
}

// TestFaultsInBlocks: the same failures, as far on as what is ahead of them is long.
func TestFaultsInBlocks(t *testing.T) {
	for _, ahead := range []string{"\x01", "\x02\x40", "\x03\x7f\x01", "\x04\x7e\x05", "\x04\x40\x01\x05\x00", "\x02\x40\x0b", "\x04\x40\x05\x0b"} {
		for _, x := range faults() {
			expectFailure(t, ahead+x.bytes, true, x.e, len(ahead)+x.at)
			expectFailure(t, ahead+x.bytes, false, x.e, len(ahead)+x.at)
		}
	}
}

// TestNumbered: the byte fc with each number, with sat and without.
func TestNumbered(t *testing.T) {
	for n := range 256 {
		s := "\xfc" + string([]byte{byte(n | 128), byte(n >> 7)}) + "\x0b"
		if n < 128 {
			s = "\xfc" + string([]byte{byte(n)}) + "\x0b"
		}
		expectFailure(t, s, false, api.ErrOp, 0)
		if n < 8 {
			expectRead(t, s, true, []api.Instr{{Op: 0xfc00 + n}}, 3)
		} else {
			expectFailure(t, s, true, api.ErrOp, len(s)-1) // behind the number
		}
	}
	for _, x := range []fault{
		{"\xfc", api.ErrEnd, 1},
		{"\xfc\x80", api.ErrEnd, 1},
		{"\xfc\x80\x80\x80\x80", api.ErrEnd, 1},
		{"\xfc\x88", api.ErrEnd, 1},
		{"\xfc\x08", api.ErrOp, 2},
		{"\xfc\x88\x00\x0b", api.ErrOp, 3},
		{"\xfc\x88\x80\x80\x80\x00\x0b", api.ErrOp, 6},
		{"\xfc\x80\x80\x04\x0b", api.ErrOp, 4},
		{"\xfc\x80\x80\x80\x80\x01\x0b", api.ErrOp, 6},
		{"\xfc\x80\xf8\xff\xff\x0f\x0b", api.ErrOp, 6},
		{"\xfc\xff\xff\xff\xff\x07\x0b", api.ErrOp, 6},
		{"\xfc\xff\xff\xff\xff\x0f\x0b", api.ErrOp, 6},
		{"\xfc\xff\xff\xff\xff\x1f\x0b", api.ErrLeb, 1},
		{"\xfc\x80\x80\x80\x80\x10\x0b", api.ErrLeb, 1},
		{"\xfc\x80\x80\x80\x80\x80\x00\x0b", api.ErrLeb, 1},
	} {
		expectFailure(t, x.bytes, true, x.e, x.at)
		expectFailure(t, x.bytes, false, api.ErrOp, 0)
		expectFailure(t, "\x01\x02\x40"+x.bytes, true, x.e, 3+x.at)
		expectFailure(t, "\x01\x02\x40"+x.bytes, false, api.ErrOp, 3)
	}
	// 05 and 0b are numbers there, and no marks.
	expectRead(t, "\xfc\x05\x0b", true, []api.Instr{{Op: 0xfc05}}, 3)
	expectRead(t, "\x04\x40\xfc\x05\x0b\x0b", true, []api.Instr{{Op: 0x04, Then: []api.Instr{{Op: 0xfc05}}}}, 6)
	expectFailure(t, "\xfc\x0b", true, api.ErrOp, 2)
}

// TestEachByte: every byte as an opcode, with sat and without, with nothing, noughts, ends, or other bytes behind it.
func TestEachByte(t *testing.T) {
	behind := []string{"", "\x00", "\x0b", "\x00\x0b", "\x00\x00\x0b", "\x00\x00\x00\x00\x0b", "\x40\x0b\x0b", "\x40\x05\x0b\x0b", "\x40\x01\x05\x01\x0b\x0b", "\x7f\x0b\x0b", "\x01\x02\x03\x0b", "\x80\x80\x00\x0b", "\xff\xff\xff\xff\x0f\x00\x0b", "\xff\xff\xff\xff\xff\xff\xff\xff\xff\xff", strings.Repeat("\x00", 9) + "\x0b", strings.Repeat("\x0b", 10)}
	ahead := []string{"", "\x01", "\x02\x40", "\x04\x40", "\x04\x40\x05"}
	for b := range 256 {
		op := string([]byte{byte(b)})
		for _, a := range ahead {
			for _, z := range behind {
				expectModel(t, a+op+z, 0)
			}
		}
		// By hand: what is no opcode's is told as such ahead of anything else.
		if kind(byte(b)) == "-" && b != 0xfc {
			for _, z := range behind {
				expectFailure(t, op+z, false, api.ErrOp, 0)
				expectFailure(t, op+z, true, api.ErrOp, 0)
			}
		}
	}
}

// TestHowManyBytes: how many bytes are opcodes, marks too.
func TestHowManyBytes(t *testing.T) {
	n := 0
	for b := range 256 {
		c := scan.New([]byte{0x04, 0x40, byte(b)})
		if Expr(c, false); c.Err() != api.ErrOp {
			n++
		}
	}
	if n != 172 {
		t.Error(n)
	}
}

// TestBlockTypes: every byte as a block's type.
func TestBlockTypes(t *testing.T) {
	for _, op := range []string{"\x02", "\x03", "\x04"} {
		for b := range 256 {
			s := op + string([]byte{byte(b)}) + "\x0b\x0b"
			switch b {
			case 0x40:
				expectRead(t, s, false, []api.Instr{{Op: int(op[0])}}, 4)
			case 0x7f, 0x7e, 0x7d, 0x7c:
				expectRead(t, s, false, []api.Instr{{Op: int(op[0]), Type: byte(b)}}, 4)
			default:
				expectFailure(t, s, false, api.ErrType, 1)
			}
		}
	}
}

// TestNoughts: every byte where one must be 0.
func TestNoughts(t *testing.T) {
	for _, op := range []string{"\x11\x03", "\x3f", "\x40"} {
		for b := range 256 {
			s := op + string([]byte{byte(b)}) + "\x0b"
			if b != 0 {
				expectFailure(t, s, false, api.ErrByte, len(op)+1)
				continue
			}
			c := scan.New([]byte(s))
			if l := Expr(c, false); len(l) != 1 || stateOf(c) != (state{len(s), 0, api.OK}) {
				t.Fatal(l, stateOf(c))
			}
		}
	}
}

// Blocks in one another

// opening: how a block begins, up to where another lies in it, and what it is with that one.
type opening struct {
	bytes string
	with  func(list ...api.Instr) api.Instr
}

func openings() []opening {
	nop := []api.Instr{{Op: 0x01}}
	return []opening{
		{"\x02\x40", func(l ...api.Instr) api.Instr { return api.Instr{Op: 0x02, Then: l} }},
		{"\x03\x7f", func(l ...api.Instr) api.Instr { return api.Instr{Op: 0x03, Type: api.I32, Then: l} }},
		{"\x04\x7e", func(l ...api.Instr) api.Instr { return api.Instr{Op: 0x04, Type: api.I64, Then: l} }},
		{"\x04\x40\x05", func(l ...api.Instr) api.Instr { return api.Instr{Op: 0x04, Has: true, Else: l} }},
		{"\x04\x7d\x01\x05", func(l ...api.Instr) api.Instr {
			return api.Instr{Op: 0x04, Type: api.F32, Then: nop, Has: true, Else: l}
		}},
	}
}

// nested: n blocks in one another, whose kinds pick tells, with a list in the innermost one: their beginnings, and what they are.
func nested(n int, pick func(i int) opening, list ...api.Instr) (string, []api.Instr) {
	bytes := ""
	for i := range n {
		bytes += pick(i).bytes
	}
	for i := n - 1; i >= 0; i-- {
		list = []api.Instr{pick(i).with(list...)}
	}
	return bytes, list
}

// picks: all blocks of one kind, and one kind behind the other.
func picks() (list []func(i int) opening) {
	all := openings()
	for _, o := range all {
		list = append(list, func(int) opening { return o })
	}
	for from := range all {
		list = append(list, func(i int) opening { return all[(i+from)%len(all)] })
	}
	return list
}

// ends: so many bytes 0b.
func ends(n int) string { return strings.Repeat("\x0b", n) }

// TestNest: blocks in one another up to MaxNest, and one more, whatever stands behind its opcode.
func TestNest(t *testing.T) {
	for _, pick := range picks() {
		for _, n := range []int{1, 2, 3, 63, 64} {
			bytes, want := nested(n, pick)
			expectRead(t, bytes+ends(n+1)+"\x0b\x01", false, want, len(bytes)+n+1)
			if Depth(want) != n || api.MaxNest != 64 {
				t.Fatal(n, Depth(want))
			}
			bytes, want = nested(n, pick, api.Instr{Op: 0x41, Bits: 7}, api.Instr{Op: 0x1a})
			bytes += "\x41\x07\x1a"
			expectRead(t, bytes+ends(n+1), false, want, len(bytes)+n+1)
			expectFailure(t, bytes+ends(n), false, api.ErrEnd, len(bytes)+n)
		}
		full, _ := nested(64, pick)
		for _, op := range []string{"\x02", "\x03", "\x04"} {
			for _, behind := range []string{"", "\x40", "\x41", "\x00", "\xff", "\x40\x05", "\x40\x06", "\x40\x05\x05", "\x7f\x0c", ends(1), ends(100), "\x40" + ends(66), "\x40\x05" + ends(66)} {
				expectFailure(t, full+op+behind, false, api.ErrLimit, len(full))
				expectFailure(t, full+"\x01"+op+behind, true, api.ErrLimit, len(full)+1)
			}
		}
		for n := 65; n < 70; n++ {
			more, _ := nested(n, pick)
			expectModel(t, more+ends(n+1), 0)
			c := scan.New([]byte(more + ends(n+1)))
			if l := Expr(c, false); len(l) != 0 || c.Err() != api.ErrLimit || c.At() < len(full) {
				t.Fatal(n, c.Err(), c.At())
			}
		}
		// What is no block, or nothing at all, isn't told as one too many.
		expectFailure(t, full+"\x06", false, api.ErrOp, len(full))
		expectFailure(t, full+"\xfc\x08", false, api.ErrOp, len(full))
		expectFailure(t, full, false, api.ErrEnd, len(full))
		expectFailure(t, full+"\x3f\x01", false, api.ErrByte, len(full)+2)
	}
}

// TestNestOfElse: an if lies in MaxNest - 1, and blocks stand in its Then, or its Else, at the limit and beyond it.
func TestNestOfElse(t *testing.T) {
	block := openings()[0]
	ahead, _ := nested(63, func(int) opening { return block })
	expectModel(t, ahead+"\x04\x40\x01\x05\x01"+ends(65), 0)
	_, want := nested(63, func(int) opening { return block }, api.Instr{Op: 0x04, Then: []api.Instr{{Op: 0x01}}, Has: true, Else: []api.Instr{{Op: 0x00}}})
	expectRead(t, ahead+"\x04\x40\x01\x05\x00"+ends(65), false, want, len(ahead)+70)
	expectFailure(t, ahead+"\x04\x40\x02\x40"+ends(66), false, api.ErrLimit, len(ahead)+2)
	expectFailure(t, ahead+"\x04\x40\x05\x02\x40"+ends(66), false, api.ErrLimit, len(ahead)+3)
	expectFailure(t, ahead+"\x04\x40\x01\x05\x01\x04\x40"+ends(66), false, api.ErrLimit, len(ahead)+5)
	expectFailure(t, ahead+"\x04\x40\x05\x05"+ends(66), false, api.ErrOp, len(ahead)+3)
}

// TestBeside: blocks that stand beside each other, however many, aren't in one another.
func TestBeside(t *testing.T) {
	for _, o := range openings() {
		for _, deep := range []int{0, 1, 62, 63} {
			ahead, _ := nested(deep, func(int) opening { return openings()[1] })
			var row []api.Instr
			for range 200 {
				row = append(row, o.with())
			}
			_, want := nested(deep, func(int) opening { return openings()[1] }, row...)
			s := ahead + strings.Repeat(o.bytes+"\x0b", 200) + ends(deep+1)
			expectRead(t, s, false, want, len(s))
		}
		// Behind a block at the limit there may be one as deep, and behind a whole one all as deep again.
		deep, want := nested(64, func(int) opening { return o })
		s := deep + ends(1) + o.bytes + ends(1)
		expectModel(t, s+ends(64), 0)
		expectRead(t, strings.Repeat(deep+ends(64), 3)+"\x0b", false, slices.Concat(want, want, want), 3*len(deep)+193)
		expectFailure(t, deep+ends(1)+o.bytes+o.bytes+ends(66), false, api.ErrLimit, len(deep)+1+len(o.bytes))
	}
}

// Bytes without a pattern

// writer: instructions put into bytes, with numbers in more bytes than they need, now and then.
type writer struct {
	*dice
	b []byte
}

func (w *writer) put(b ...byte) { w.b = append(w.b, b...) }

func (w *writer) unsigned(n uint32) {
	for i := 0; i < 4 && (n > 127 || w.below(8) == 0); i++ {
		w.put(byte(n | 128))
		n >>= 7
	}
	w.put(byte(n))
}

// signed: a number of so many bits, which goes to so many bytes at most.
func (w *writer) signed(n int64, most int) {
	for i := 1; i < most && (n < -64 || n > 63 || w.below(8) == 0); i++ {
		w.put(byte(n | 128))
		n >>= 7
	}
	w.put(byte(n & 127))
}

func (w *writer) fixed(n uint64, bytes int) {
	for i := range bytes {
		w.put(byte(n >> (8 * i)))
	}
}

func (w *writer) list(list []api.Instr, end byte) {
	for _, in := range list {
		w.instr(in)
	}
	w.put(end)
}

func (w *writer) instr(in api.Instr) {
	if in.Op >= 0xfc00 {
		w.put(0xfc)
		w.unsigned(uint32(in.Op - 0xfc00))
		return
	}
	w.put(byte(in.Op))
	for _, part := range kind(byte(in.Op)) {
		switch part {
		case 'b', 'e':
			w.block(in)
		case 'u':
			w.unsigned(in.A)
		case 'v':
			w.unsigned(in.B)
		case 'l':
			w.unsigned(uint32(len(in.List)))
			for _, n := range in.List {
				w.unsigned(n)
			}
		case '0':
			w.put(0)
		case 's':
			w.signed(int64(int32(in.Bits)), 5)
		case 'S':
			w.signed(int64(in.Bits), 10)
		case 'f':
			w.fixed(in.Bits, 4)
		case 'F':
			w.fixed(in.Bits, 8)
		}
	}
}

func (w *writer) block(in api.Instr) {
	if in.Type == 0 {
		w.put(0x40)
	} else {
		w.put(in.Type)
	}
	if in.Has {
		w.list(in.Then, 0x05)
		w.list(in.Else, 0x0b)
	} else {
		w.list(in.Then, 0x0b)
	}
}

// grown: a list of instructions of any kind, which lies in so many blocks at most.
func (d *dice) grown(deep int) (list []api.Instr) {
	for range d.below(6) {
		list = append(list, d.instr(deep))
	}
	return list
}

func (d *dice) instr(deep int) api.Instr {
	op := byte(d.next())
	for kind(op) == "-" || kind(op) == "m" {
		op = []byte{byte(d.next()), 0x02, 0x03, 0x04, 0x0e, 0x11, 0x41, 0x42, 0x43, 0x44}[d.below(10)]
	}
	in := api.Instr{Op: int(op)}
	if d.below(10) == 0 {
		return api.Instr{Op: 0xfc00 + d.below(8)}
	}
	for _, part := range kind(op) {
		switch part {
		case 'b', 'e':
			if deep == 0 {
				return api.Instr{Op: 0x01}
			}
			in.Type = []byte{0, api.I32, api.I64, api.F32, api.F64}[d.below(5)]
			in.Then = d.grown(deep - 1)
			if in.Has = part == 'e' && d.below(2) == 0; in.Has {
				in.Else = d.grown(deep - 1)
			}
		case 'u':
			in.A = uint32(d.number())
		case 'v':
			in.B = uint32(d.number())
		case 'l':
			for range d.below(5) {
				in.List = append(in.List, uint32(d.number()))
			}
		case 's', 'f':
			in.Bits = d.number() & (1<<32 - 1)
		case 'S', 'F':
			in.Bits = d.number()
		}
	}
	return in
}

// written: a list's bytes, as an expression.
func (d *dice) written(list []api.Instr) string {
	w := writer{dice: d}
	w.list(list, 0x0b)
	return string(w.b)
}

// TestWritten: lists that are put into bytes are read as they were; with other bytes behind them, and cut off at each place; P19.3.
func TestWritten(t *testing.T) {
	d := newDice()
	for range 3000 {
		list := d.grown(5)
		s := d.written(list)
		expectRead(t, s, true, list, len(s))
		expectModel(t, s, 0)
		for _, behind := range []string{"\x0b", "\x00", "\x05", "\xff", "\x0b\x0b\x0b", s} {
			expectRead(t, s+behind, true, list, len(s))
		}
		if Depth(list) > api.MaxNest {
			t.Fatal(Depth(list))
		}
		if len(s) > 300 {
			continue
		}
		for n := range len(s) {
			expectModel(t, s[:n], 0)
			c := scan.New([]byte(s[:n]))
			if l := Expr(c, true); len(l) != 0 || c.Err() != api.ErrEnd {
				t.Fatalf("% x: %v %d", s[:n], l, c.Err())
			}
		}
	}
}

// TestNear: expressions with a byte changed, left out, or put in between, are read by the chapter's words, or fail by them.
func TestNear(t *testing.T) {
	d := newDice()
	for range 4000 {
		b := []byte(d.written(d.grown(3)))
		for range 1 + d.below(3) {
			at := d.below(len(b))
			other := byte(d.next())
			if d.below(2) == 0 {
				other = []byte{0x00, 0x01, 0x02, 0x04, 0x05, 0x0b, 0x0e, 0x11, 0x40, 0x7f, 0x80, 0xfc, 0xff}[d.below(13)]
			}
			switch d.below(3) {
			case 0:
				b[at] = other
			case 1:
				b = slices.Insert(b, at, other)
			case 2:
				b = append(slices.Delete(b, at, at+1), 0x0b)
			}
		}
		expectModel(t, string(b), 0)
		expectModel(t, string(b), d.below(len(b)+1))
	}
}

// TestAllOfTwoBytes: all two bytes, alone and with others behind them.
func TestAllOfTwoBytes(t *testing.T) {
	for n := range 1 << 16 {
		s := string([]byte{byte(n), byte(n >> 8)})
		expectModel(t, s, 0)
		expectModel(t, s+"\x0b", 0)
	}
}

// TestMarks: all rows of a few bytes, most of which are marks and blocks.
func TestMarks(t *testing.T) {
	const of = "\x02\x04\x05\x0b\x40\x01\x06"
	const long = 6
	n := 1
	for range long {
		n *= len(of)
	}
	for i := range n {
		var b [long]byte
		for at := range b {
			b[at] = of[i%len(of)]
			i /= len(of)
		}
		s := string(b[:])
		want, behind, e := read(s, 0, false)
		expectAt(t, s, 0, false, want, behind, e)
	}
}

// TestBehindIsNothing: bytes behind an expression change neither what is read nor where the cursor stands, and no expression begins another.
func TestBehindIsNothing(t *testing.T) {
	for _, x := range append(samples(), satSamples()...) {
		s := x.bytes + "\x0b"
		for b := range 256 {
			expectRead(t, s+string([]byte{byte(b)}), true, []api.Instr{x.want}, len(s))
		}
	}
	d := newDice()
	for range 2000 {
		var b []byte
		for range 40 {
			b = append(b, byte(d.next())&byte(d.next()))
		}
		_, n, e := read(string(b), 0, true)
		if e != api.OK {
			continue
		}
		for other := n + 1; other <= len(b); other++ {
			want, _, _ := read(string(b[:other]), 0, true)
			expectRead(t, string(b[:other]), true, want, n)
		}
	}
}

// Cursors

// TestPlaces: an expression that doesn't stand at the bytes' beginning, and one behind another.
func TestPlaces(t *testing.T) {
	ahead := "\xff\x0b\x00\x05"
	for _, x := range samples() {
		for at := range len(ahead) + 1 {
			s := ahead[:at] + x.bytes + "\x0b\x0b"
			expectAt(t, s, at, false, []api.Instr{x.want}, len(s)-1, api.OK)
		}
	}
	for _, x := range faults() {
		s := ahead + x.bytes
		expectAt(t, s, len(ahead), false, nil, len(ahead)+x.at, x.e)
	}
	c := scan.New([]byte("\x41\x07\x1a\x0b\x0b\x02\x40\x0b\x0b\x05\x0b"))
	for i, want := range []struct {
		list string
		now  state
	}{
		{text([]api.Instr{{Op: 0x41, Bits: 7}, {Op: 0x1a}}), state{4, 7, api.OK}},
		{"[]", state{5, 6, api.OK}},
		{text([]api.Instr{{Op: 0x02}}), state{9, 2, api.OK}},
		{"[]", state{9, 2, api.ErrOp}},
		{"[]", state{9, 2, api.ErrOp}},
	} {
		if got := text(Expr(c, false)); got != want.list || stateOf(c) != want.now {
			t.Fatal(i, got, stateOf(c))
		}
	}
}

// TestBetween: Expr between other calls of the cursor.
func TestBetween(t *testing.T) {
	c := scan.New([]byte("\x80\x01\x3f\x00\x0b\x02hi\x06"))
	if n := c.U32(); n != 128 {
		t.Fatal(n)
	}
	if l := Expr(c, false); len(l) != 1 || l[0].Op != 0x3f {
		t.Fatal(l)
	}
	if s := c.Name(); s != "hi" {
		t.Fatal(s)
	}
	if l := Expr(c, false); len(l) != 0 || stateOf(c) != (state{8, 1, api.ErrOp}) {
		t.Fatal(l, stateOf(c))
	}
	if b := c.Byte(); b != 0 || stateOf(c) != (state{8, 1, api.ErrOp}) {
		t.Fatal(b, stateOf(c))
	}
}

// TestFailedAhead: a cursor that has failed reads nothing, and its failure stays.
func TestFailedAhead(t *testing.T) {
	for e := api.Errno(-1); e < 400; e++ {
		if e == api.OK {
			continue
		}
		for _, s := range []string{"", "\x0b", "\x01\x0b", "\x06", "\x02", "\xfc\x00\x0b"} {
			c := scan.New([]byte(s))
			c.Fail(e)
			if l := Expr(c, true); len(l) != 0 || stateOf(c) != (state{0, len(s), e}) {
				t.Fatalf("% x, %d: %v %+v", s, e, l, stateOf(c))
			}
		}
	}
	for _, x := range faults() {
		c := scan.New([]byte(x.bytes))
		for range 3 {
			if l := Expr(c, false); len(l) != 0 || stateOf(c) != (state{x.at, len(x.bytes) - x.at, x.e}) {
				t.Fatalf("% x: %v %+v", x.bytes, l, stateOf(c))
			}
		}
	}
}

// TestNoCursor: one that is nil, and one that New did not make, which has no bytes.
func TestNoCursor(t *testing.T) {
	for _, sat := range []bool{false, true} {
		if l := Expr(nil, sat); len(l) != 0 {
			t.Error(l)
		}
		c := &scan.Cursor{}
		if l := Expr(c, sat); len(l) != 0 || stateOf(c) != (state{0, 0, api.ErrEnd}) {
			t.Error(l, stateOf(c))
		}
		c = scan.New(nil)
		if l := Expr(c, sat); len(l) != 0 || stateOf(c) != (state{0, 0, api.ErrEnd}) {
			t.Error(l, stateOf(c))
		}
	}
}

// TestLong: an expression of many instructions, and one of many blocks.
func TestLong(t *testing.T) {
	const n = 1 << 17
	for _, one := range []sample{{"\x01", api.Instr{Op: 0x01}}, {"\x41\xc0\x00", api.Instr{Op: 0x41, Bits: 64}}, {"\x02\x40\x0b", api.Instr{Op: 0x02}}} {
		c := scan.New([]byte(strings.Repeat(one.bytes, n) + "\x0b"))
		l := Expr(c, false)
		if len(l) != n || Size(l) != n || stateOf(c) != (state{n*len(one.bytes) + 1, 0, api.OK}) {
			t.Fatal(len(l), Size(l), stateOf(c))
		}
		for _, in := range l {
			if text(in) != text(one.want) {
				t.Fatal(in)
			}
		}
	}
}

// The tree

// told: of an instruction that Each tells in how many blocks it lies, and its opcode.
type told struct {
	blocks int
	op     int
}

// row: all that Each tells.
func row(list []api.Instr) (all []told) {
	for blocks, in := range Each(list) {
		all = append(all, told{blocks, in.Op})
	}
	return all
}

// flat: the same, by the chapter's words.
func flat(list []api.Instr, blocks int) (all []told) {
	for _, in := range list {
		all = append(all, told{blocks, in.Op})
		all = append(all, flat(in.Then, blocks+1)...)
		all = append(all, flat(in.Else, blocks+1)...)
	}
	return all
}

// inAll: the instructions of a list, in Each's order.
func inAll(list []api.Instr) (all []api.Instr) {
	for _, in := range list {
		all = append(append(append(all, in), inAll(in.Then)...), inAll(in.Else)...)
	}
	return all
}

// depthOf: Depth by the chapter's words: an instruction is a block by its opcode, or if it has instructions in it.
func depthOf(list []api.Instr) int {
	most := 0
	for _, in := range list {
		here := max(depthOf(in.Then), depthOf(in.Else))
		if in.Op == 0x02 || in.Op == 0x03 || in.Op == 0x04 || len(in.Then)+len(in.Else) > 0 {
			here++
		}
		most = max(most, here)
	}
	return most
}

// tree: a list, and by hand what Each tells of it, and its Depth.
type tree struct {
	name  string
	list  []api.Instr
	rows  []told
	depth int
}

func trees() []tree {
	nop, drop := api.Instr{Op: 0x01}, api.Instr{Op: 0x1a}
	return []tree{
		{"nil", nil, nil, 0},
		{"empty", []api.Instr{}, nil, 0},
		{"nop", []api.Instr{nop}, []told{{0, 1}}, 0},
		{"two", []api.Instr{nop, drop}, []told{{0, 1}, {0, 0x1a}}, 0},
		{"empty block", []api.Instr{{Op: 0x02}}, []told{{0, 2}}, 1},
		{"empty loop", []api.Instr{{Op: 0x03}}, []told{{0, 3}}, 1},
		{"empty if", []api.Instr{{Op: 0x04}}, []told{{0, 4}}, 1},
		{"if with an empty else", []api.Instr{{Op: 0x04, Has: true}}, []told{{0, 4}}, 1},
		{"nop, empty block, nop", []api.Instr{nop, {Op: 0x02}, nop}, []told{{0, 1}, {0, 2}, {0, 1}}, 1},
		{"block with nop", []api.Instr{{Op: 0x02, Then: []api.Instr{nop}}}, []told{{0, 2}, {1, 1}}, 1},
		{"block with an empty loop", []api.Instr{{Op: 0x02, Then: []api.Instr{{Op: 0x03}}}}, []told{{0, 2}, {1, 3}}, 2},
		{"if", []api.Instr{{Op: 0x04, Then: []api.Instr{nop}, Has: true, Else: []api.Instr{drop}}, nop}, []told{{0, 4}, {1, 1}, {1, 0x1a}, {0, 1}}, 1},
		{"deeper else", []api.Instr{{Op: 0x04, Then: []api.Instr{nop}, Has: true, Else: []api.Instr{{Op: 0x02, Then: []api.Instr{drop}}}}}, []told{{0, 4}, {1, 1}, {1, 2}, {2, 0x1a}}, 2},
		{"deeper then", []api.Instr{{Op: 0x04, Then: []api.Instr{{Op: 0x03, Then: []api.Instr{nop}}}, Has: true, Else: []api.Instr{drop}}}, []told{{0, 4}, {1, 3}, {2, 1}, {1, 0x1a}}, 2},
		{"else without Has", []api.Instr{{Op: 0x04, Else: []api.Instr{nop, {Op: 0x04}}}}, []told{{0, 4}, {1, 1}, {1, 4}}, 2},
		{"else of a block", []api.Instr{{Op: 0x02, Then: []api.Instr{drop}, Else: []api.Instr{nop}}}, []told{{0, 2}, {1, 0x1a}, {1, 1}}, 1},
		{"add with nop", []api.Instr{{Op: 0x6a, Then: []api.Instr{nop}}}, []told{{0, 0x6a}, {1, 1}}, 1},
		{"add with nop in Else", []api.Instr{{Op: 0x6a, Else: []api.Instr{nop}}, drop}, []told{{0, 0x6a}, {1, 1}, {0, 0x1a}}, 1},
		{"add with an empty block", []api.Instr{{Op: 0x6a, Then: []api.Instr{{Op: 0x02}}}}, []told{{0, 0x6a}, {1, 2}}, 2},
		{"none with an else in it", []api.Instr{{Op: -7, Then: []api.Instr{{Op: 0x05, Else: []api.Instr{{Op: 0xffff}}}}}}, []told{{0, -7}, {1, 5}, {2, 0xffff}}, 2},
		{"no blocks", []api.Instr{{Op: 0x05}, {Op: 0x0b}, {Op: 0x0c}, {Op: 0x06}, {Op: 0xfc}, {Op: -2}, {Op: 0x102}, {Op: 0x6a, Has: true}}, []told{{0, 5}, {0, 11}, {0, 12}, {0, 6}, {0, 0xfc}, {0, -2}, {0, 0x102}, {0, 0x6a}}, 0},
		{"side by side", []api.Instr{{Op: 0x02, Then: []api.Instr{{Op: 0x02, Then: []api.Instr{{Op: 0x02}}}, nop}}, {Op: 0x03, Then: []api.Instr{drop}}}, []told{{0, 2}, {1, 2}, {2, 2}, {1, 1}, {0, 3}, {1, 0x1a}}, 3},
		{"the deepest first", []api.Instr{{Op: 0x02, Then: []api.Instr{{Op: 0x02, Then: []api.Instr{nop}}}}, {Op: 0x02, Then: []api.Instr{nop}}, nop}, []told{{0, 2}, {1, 2}, {2, 1}, {0, 2}, {1, 1}, {0, 1}}, 2},
	}
}

// wild: a list by hand, with instructions in Then and Else of any opcode.
func (d *dice) wild(deep int) (list []api.Instr) {
	for range d.below(4) {
		in := api.Instr{Op: d.below(0x110) - 8, Type: byte(d.next()), A: uint32(d.next()), B: uint32(d.next()), Bits: d.next(), Has: d.below(2) == 0}
		for range d.below(3) {
			in.List = append(in.List, uint32(d.next()))
		}
		if deep > 0 {
			in.Then, in.Else = d.wild(deep-1), d.wild(deep-1)
		}
		list = append(list, in)
	}
	return list
}

// lists: those by hand, those that are read, and those without a pattern.
func lists(t *testing.T) (all [][]api.Instr) {
	for _, x := range trees() {
		all = append(all, x.list)
	}
	var row []api.Instr
	for _, x := range samples() {
		l := Expr(scan.New([]byte(x.bytes+"\x0b")), false)
		if len(l) != 1 {
			t.Fatal(l)
		}
		if len(x.bytes) < 1000 {
			row = append(row, l...)
		}
		all = append(all, l)
	}
	all = append(all, row, []api.Instr{{Op: 0x02, Then: row, Else: row}})
	d := newDice()
	for range 200 {
		all = append(all, d.wild(3), d.grown(4))
	}
	return all
}

func TestTrees(t *testing.T) {
	for _, x := range trees() {
		if got := row(x.list); !slices.Equal(got, x.rows) {
			t.Errorf("%s: %v, not %v", x.name, got, x.rows)
		}
		if got := Size(x.list); got != len(x.rows) {
			t.Errorf("%s: %d, not %d", x.name, got, len(x.rows))
		}
		if got := Depth(x.list); got != x.depth {
			t.Errorf("%s: %d, not %d", x.name, got, x.depth)
		}
	}
}

// TestLists: all lists against the chapter's words; what is told of each instruction is the whole of it.
func TestLists(t *testing.T) {
	for _, list := range lists(t) {
		want := flat(list, 0)
		if got := row(list); !slices.Equal(got, want) {
			t.Fatalf("%.300s: %v, not %v", text(list), got, want)
		}
		var got []api.Instr
		for _, in := range Each(list) {
			got = append(got, in)
		}
		if text(got) != text(inAll(list)) {
			t.Fatalf("%.300s: %.300s", text(list), text(got))
		}
		if n := Size(list); n != len(want) {
			t.Fatalf("%.300s: %d", text(list), n)
		}
		if n := Depth(list); n != depthOf(list) {
			t.Fatalf("%.300s: %d, not %d", text(list), n, depthOf(list))
		}
	}
}

// TestDepthOfOpcodes: which opcodes are a block without anything in it.
func TestDepthOfOpcodes(t *testing.T) {
	for op := -0x300; op < 0x20000; op++ {
		want := 0
		if op == 0x02 || op == 0x03 || op == 0x04 {
			want = 1
		}
		if got := Depth([]api.Instr{{Op: op, Type: api.I32, A: 2, B: 3, Bits: 4, List: []uint32{2}, Has: true}}); got != want {
			t.Fatalf("%x: %d", op, got)
		}
		if got := Depth([]api.Instr{{Op: op, Then: []api.Instr{{Op: op}}}}); got != 1+want {
			t.Fatalf("%x: %d", op, got)
		}
	}
}

// TestStopped: Each stopped at each place tells no more, and may be gone through again.
func TestStopped(t *testing.T) {
	for _, list := range lists(t) {
		all := flat(list, 0)
		seq := Each(list)
		for n := range min(len(all), 40) {
			var got []told
			for blocks, in := range seq {
				got = append(got, told{blocks, in.Op})
				if len(got) > n {
					break
				}
			}
			if !slices.Equal(got, all[:n+1]) {
				t.Fatal(n, got)
			}
			calls := 0
			seq(func(int, api.Instr) bool {
				calls++
				return calls <= n
			})
			if calls != n+1 {
				t.Fatal(n, calls)
			}
		}
		calls := 0
		seq(func(int, api.Instr) bool {
			calls++
			return true
		})
		if calls != len(all) {
			t.Fatal(calls, len(all))
		}
	}
}

// TestInOneAnother: one Each gone through within another, and twice at once.
func TestInOneAnother(t *testing.T) {
	list := trees()[len(trees())-2].list
	seq := Each(list)
	n := 0
	for a := range seq {
		for b := range seq {
			for c := range Each(list) {
				n += 1 + a*100 + b*10000 + c*1000000
			}
		}
	}
	blocks := 0
	for _, x := range flat(list, 0) {
		blocks += x.blocks
	}
	if of := Size(list); n != of*of*of+of*of*blocks*1010100 {
		t.Error(n)
	}
	done := make(chan []told)
	for range 8 {
		go func() {
			var got []told
			for blocks, in := range seq {
				got = append(got, told{blocks, in.Op})
				spoil(in)
			}
			done <- got
		}()
	}
	for range 8 {
		if got := <-done; !slices.Equal(got, flat(list, 0)) {
			t.Error(got)
		}
	}
}

// TestDeep: lists by hand lie in more blocks than those that are read may.
func TestDeep(t *testing.T) {
	for _, n := range []int{63, 64, 65, 100, 1000} {
		_, list := nested(n, func(i int) opening { return openings()[i%5] })
		if Depth(list) != n || !slices.Equal(row(list), flat(list, 0)) {
			t.Error(n, Depth(list))
		}
	}
	const n = 1 << 16
	var then, other []api.Instr
	for range n {
		then = []api.Instr{{Op: 0x03, Then: then}}
		other = []api.Instr{{Op: 0x01}, {Op: 0x6a, Else: other}, {Op: 0x01}}
	}
	if Size(then) != n || Depth(then) != n {
		t.Error(Size(then), Depth(then))
	}
	if Size(other) != 3*n || Depth(other) != n-1 {
		t.Error(Size(other), Depth(other))
	}
	wide := make([]api.Instr, n)
	if Size(wide) != n || Depth(wide) != 0 || len(row(wide)) != n {
		t.Error(Size(wide), Depth(wide))
	}
}

// Memory

// spoil changes all that can be got at from an instruction, the room behind its lists too.
func spoil(in api.Instr) {
	for _, list := range [][]api.Instr{in.Then, in.Else} {
		for _, x := range list {
			spoil(x)
		}
		for i := range list[:cap(list)] {
			list[:cap(list)][i] = api.Instr{Op: -1, Then: []api.Instr{{}}, Else: []api.Instr{{}}, List: []uint32{9}}
		}
	}
	for i := range in.List[:cap(in.List)] {
		in.List[:cap(in.List)][i] = 99
	}
}

// roomy: a list, and each in it, with something in the room behind it.
func roomy(list []api.Instr) []api.Instr {
	room := make([]api.Instr, 0, len(list)+2)
	for _, in := range list {
		in.Then, in.Else = roomy(in.Then), roomy(in.Else)
		in.List = append(append(make([]uint32, 0, len(in.List)+2), in.List...), 77, 78)[:len(in.List)]
		room = append(room, in)
	}
	room = append(room, api.Instr{Op: 0x77}, api.Instr{Op: 0x78, Then: []api.Instr{{Op: 0x79}}})
	return room[:len(list)]
}

// whole: a list as a text, with the room behind it and behind each in it.
func whole(list []api.Instr) string {
	s := fmt.Sprintf("%d[", len(list))
	for _, in := range list[:cap(list)] {
		s += fmt.Sprintf("%d %d %d %d %d %v %d%v ", in.Op, in.Type, in.A, in.B, in.Bits, in.Has, len(in.List), in.List[:cap(in.List)])
		s += whole(in.Then) + whole(in.Else)
	}
	return s + "]"
}

// TestHandedInStays: nothing that is handed in is changed, the room behind it neither; and what lies there is not told.
func TestHandedInStays(t *testing.T) {
	for _, plain := range lists(t) {
		list := roomy(plain)
		was := whole(list)
		if !slices.Equal(row(list), flat(plain, 0)) || Size(list) != Size(plain) || Depth(list) != Depth(plain) {
			t.Fatalf("%.300s: %v", text(plain), row(list))
		}
		for _, in := range Each(list) {
			spoil(in)
		}
		for _, in := range Each(list) {
			spoil(in)
			break
		}
		if now := whole(list); now != was {
			t.Fatalf("%.300s, not %.300s", now, was)
		}
	}
	b := []byte("\x04\x40\x0e\x02\x00\x01\x02\x05\x43\x01\x02\x03\x04\x0b\x0b\x0b")
	was := string(b)
	c := scan.New(b)
	Expr(c, false)
	if string(b) != was {
		t.Errorf("% x", b)
	}
}

// TestToldAnew: what is told is new memory each time: whatever is done to it, all else is told as it was.
func TestToldAnew(t *testing.T) {
	for _, plain := range lists(t) {
		list := roomy(plain)
		seq := Each(list)
		want := inAll(plain)
		for range 2 {
			i := 0
			for _, in := range seq {
				if text(in) != text(want[i]) {
					t.Fatalf("%d of %.300s: %.300s", i, text(plain), text(in))
				}
				spoil(in)
				i++
			}
		}
	}
}

// TestRoomBehind: the room behind what is told has nothing in it.
func TestRoomBehind(t *testing.T) {
	for _, plain := range lists(t) {
		for _, in := range Each(roomy(plain)) {
			for _, x := range inAll([]api.Instr{in}) {
				for _, list := range [][]api.Instr{x.Then, x.Else} {
					for _, behind := range list[len(list):cap(list)] {
						if text(behind) != text(api.Instr{}) {
							t.Fatal(behind)
						}
					}
				}
				for _, behind := range x.List[len(x.List):cap(x.List)] {
					if behind != 0 {
						t.Fatal(behind)
					}
				}
			}
		}
	}
}

// TestNotKept: what becomes of a list behind the call changes nothing of what is told.
func TestNotKept(t *testing.T) {
	for _, plain := range lists(t) {
		list := roomy(plain)
		seq := Each(list)
		spoil(api.Instr{Then: list})
		i := 0
		want := inAll(plain)
		for _, in := range seq {
			if text(in) != text(want[i]) {
				t.Fatalf("%d: %.300s", i, text(in))
			}
			i++
		}
		if i != len(want) {
			t.Fatal(i, len(want))
		}
	}
	// And what becomes of it while it is gone through.
	list := []api.Instr{{Op: 0x02, Then: []api.Instr{{Op: 0x01}}}, {Op: 0x1a}}
	var got []told
	for blocks, in := range Each(list) {
		got = append(got, told{blocks, in.Op})
		list[0].Then[0].Op, list[1] = 0x00, api.Instr{Op: 0x03, Then: list}
	}
	if !slices.Equal(got, []told{{0, 2}, {1, 1}, {0, 0x1a}}) {
		t.Error(got)
	}
}

// TestReadApart: what is read shares no memory: neither with what was read ahead of it, nor one list of it with another, nor with the bytes.
func TestReadApart(t *testing.T) {
	d := newDice()
	for range 300 {
		list := d.grown(4)
		b := []byte(d.written(list))
		again := Expr(scan.New(b), true)
		c := scan.New(b)
		got := Expr(c, true)
		for i := range b {
			b[i] = 0xff
		}
		for i := range got {
			if text(got[i]) != text(list[i]) {
				t.Fatalf("%d: %.300s, not %.300s", i, text(got[i]), text(list[i]))
			}
			spoil(got[i])
		}
		spoil(api.Instr{Then: got})
		if text(again) != text(list) || stateOf(c) != (state{len(b), 0, api.OK}) {
			t.Fatal(text(again), stateOf(c))
		}
	}
	// One list of one instruction is spoiled, and all others stay.
	s := "\x04\x40\x0e\x03\x01\x02\x03\x04\x0e\x03\x05\x06\x07\x08\x05\x02\x40\x01\x01\x01\x0b\x03\x40\x00\x00\x00\x0b\x0b\x0b"
	for i := range inAll(Expr(scan.New([]byte(s)), false)) {
		l := Expr(scan.New([]byte(s)), false)
		all := inAll(l)
		if len(all) != 11 {
			t.Fatal(text(l))
		}
		want := text(all[i+1:])
		spoilOwn(all[i])
		if text(all[i+1:]) != want || text(inAll(l)[i+1:]) != want {
			t.Fatal(i, text(all))
		}
	}
}

// spoilOwn changes an instruction's labels, and the room behind its lists, but nothing that lies in it.
func spoilOwn(in api.Instr) {
	spoil(api.Instr{List: in.List})
	for _, list := range [][]api.Instr{in.Then, in.Else} {
		room := list[len(list):cap(list)]
		for i := range room {
			room[i] = api.Instr{Op: -1, List: []uint32{1}}
		}
	}
}

// TestAgain: the same bytes are read the same each time, from many sides at once.
func TestAgain(t *testing.T) {
	d := newDice()
	var bytes []string
	var want []string
	for range 100 {
		list := d.grown(4)
		bytes, want = append(bytes, d.written(list)), append(want, text(list))
	}
	done := make(chan bool)
	for range 8 {
		go func() {
			same := true
			for i, s := range bytes {
				Expr(scan.New([]byte(s + s)[1:]), false)
				same = same && text(Expr(scan.New([]byte(s)), true)) == want[i]
			}
			done <- same
		}()
	}
	for range 8 {
		if !<-done {
			t.Error("another answer")
		}
	}
}
