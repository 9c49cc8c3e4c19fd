package module

import (
	"math/big"
	"reflect"
	"strings"
	"testing"
	"unicode/utf8"

	"trunnion/api"
	"trunnion/code"
	"trunnion/scan"
)

// What the tests lean on

// head: how each module begins.
const head = "\x00asm\x01\x00\x00\x00"

// same says whether two values are, a list without an element being the same, nil or not.
func same(a, b any) bool { return sameValue(reflect.ValueOf(a), reflect.ValueOf(b)) }

func sameValue(a, b reflect.Value) bool {
	switch a.Kind() {
	case reflect.Slice:
		if a.Len() != b.Len() {
			return false
		}
		for i := range a.Len() {
			if !sameValue(a.Index(i), b.Index(i)) {
				return false
			}
		}
		return true
	case reflect.Struct:
		for i := range a.NumField() {
			if !sameValue(a.Field(i), b.Field(i)) {
				return false
			}
		}
		return true
	}
	return a.Interface() == b.Interface()
}

// decode: what Decode answers, of bytes with others in the room behind them; neither are changed.
func decode(t *testing.T, s string, sat bool) (api.Module, api.Errno) {
	t.Helper()
	const behind = "\x00\x00\x08\x01\x00\x0b\xff"
	room := []byte(s + behind)
	m, e := Decode(room[:len(s)], sat)
	if string(room) != s+behind {
		t.Fatalf("% .80x: now % .80x", s, room)
	}
	return m, e
}

// expect holds what Decode answers against what is wanted.
func expect(t *testing.T, s string, sat bool, want api.Module, e api.Errno) {
	t.Helper()
	m, got := decode(t, s, sat)
	if got != e {
		t.Fatalf("% .200x, %v: %d, not %d", s, sat, got, e)
	}
	if !same(m, want) {
		t.Fatalf("% .200x, %v: %.500v, not %.500v", s, sat, m, want)
	}
}

// expectModule: s is that module, with sat and without.
func expectModule(t *testing.T, s string, want api.Module) {
	t.Helper()
	expect(t, s, false, want, api.OK)
	expect(t, s, true, want, api.OK)
}

// expectFailure: s fails with e, with sat and without.
func expectFailure(t *testing.T, s string, e api.Errno) {
	t.Helper()
	expect(t, s, false, api.Module{}, e)
	expect(t, s, true, api.Module{}, e)
}

// dice: numbers without a pattern, the same at each run.
type dice struct{ x uint64 }

func newDice() *dice { return &dice{0x9e3779b97f4a7c15} }

func (d *dice) next() uint64 {
	d.x ^= d.x << 13
	d.x ^= d.x >> 7
	d.x ^= d.x << 17
	return d.x
}

// below: a number from 0 to n - 1.
func (d *dice) below(n int) int { return int(d.next() >> 1 % uint64(n)) }

// leb: a number's shortest bytes.
func leb(n uint64) string { return lebOf(n, 1) }

// lebOf: a number in so many bytes at least.
func lebOf(n uint64, least int) string {
	var b []byte
	for ; n > 127 || least > 1; least-- {
		b = append(b, byte(n|128))
		n >>= 7
	}
	return string(append(b, byte(n)))
}

// sized: bytes, behind how many they are.
func sized(s string) string { return leb(uint64(len(s))) + s }

// sec: a section of a number and a content.
func sec(number int, content string) string { return string([]byte{byte(number)}) + sized(content) }

// vec: a list of things, each of them its bytes.
func vec(things ...string) string {
	return leb(uint64(len(things))) + strings.Join(things, "")
}

// times: a thing so often.
func times[T any](n int, thing T) (list []T) {
	for range n {
		list = append(list, thing)
	}
	return list
}

// The chapter's words, written out

// model: bytes that are read by the chapter's words; what fails is thrown.
type model struct {
	s   string
	sat bool
}

// read: what Decode should answer.
func read(s string, sat bool) (m api.Module, e api.Errno) {
	if len(s) > 65536 {
		return api.Module{}, api.ErrLimit
	}
	if len(s) < 8 || s[:8] != "\x00\x61\x73\x6d\x01\x00\x00\x00" {
		return api.Module{}, api.ErrMagic
	}
	defer func() {
		if r := recover(); r != nil {
			m, e = api.Module{}, r.(api.Errno)
		}
	}()
	return (&model{s[8:], sat}).module(), api.OK
}

// refuse throws e, if it is so.
func refuse(so bool, e api.Errno) {
	if so {
		panic(e)
	}
}

func (m *model) take(n uint32) string {
	refuse(uint64(len(m.s)) < uint64(n), api.ErrEnd)
	got := m.s[:n]
	m.s = m.s[n:]
	return got
}

func (m *model) byte() byte { return m.take(1)[0] }

func (m *model) oneOf(these string, e api.Errno) byte {
	b := m.byte()
	refuse(strings.IndexByte(these, b) < 0, e)
	return b
}

func (m *model) u32() uint32 {
	n := new(big.Int)
	for i := uint(0); ; i += 7 {
		b := m.byte()
		n.Add(n, new(big.Int).Lsh(big.NewInt(int64(b&127)), i))
		refuse(b > 127 && i == 28 || n.BitLen() > 32, api.ErrLeb)
		if b < 128 {
			return uint32(n.Uint64())
		}
	}
}

func (m *model) name() string {
	s := m.take(m.u32())
	refuse(!utf8.ValidString(s), api.ErrName)
	return s
}

func (m *model) value() byte { return m.oneOf("\x7c\x7d\x7e\x7f", api.ErrType) }

func (m *model) flag() bool { return m.oneOf("\x00\x01", api.ErrByte) == 1 }

func (m *model) limits() (l api.Limits) {
	l.Has = m.flag()
	l.Min = m.u32()
	if l.Has {
		l.Max = m.u32()
	}
	return l
}

func (m *model) table() api.Limits {
	m.oneOf("\x70", api.ErrType)
	return m.limits()
}

func (m *model) global() (g api.GlobalType) {
	g.Type = m.value()
	g.Mut = m.flag()
	return g
}

func (m *model) funcType() (f api.FuncType) {
	m.oneOf("\x60", api.ErrByte)
	f.Params = many(m, m.value)
	f.Results = many(m, m.value)
	return f
}

// expr: layer 19's expression.
func (m *model) expr() []api.Instr {
	c := scan.New([]byte(m.s))
	list := code.Expr(c, m.sat)
	refuse(c.Err() != api.OK, c.Err())
	m.s = m.s[c.At():]
	return list
}

// many: Count and so many things.
func many[T any](m *model, one func() T) (list []T) {
	n := m.u32()
	refuse(n > 4096, api.ErrLimit)
	for range n {
		list = append(list, one())
	}
	return list
}

// within: U32 and so many bytes, which are read as if the bytes ended with them.
func within[T any](m *model, what func(in *model) T) T {
	in := &model{m.take(m.u32()), m.sat}
	got := what(in)
	refuse(in.s != "", api.ErrSize)
	return got
}

func (m *model) locals() []byte {
	total := new(big.Int)
	type run struct {
		n uint32
		t byte
	}
	runs := many(m, func() run {
		n := m.u32()
		total.Add(total, big.NewInt(int64(n)))
		return run{n, m.value()}
	})
	refuse(total.BitLen() > 32, api.ErrLocals)
	refuse(total.Cmp(big.NewInt(1024)) > 0, api.ErrLimit)
	var list []byte
	for _, r := range runs {
		list = append(list, times(int(r.n), r.t)...)
	}
	return list
}

func (m *model) wanted() (i api.Import) {
	i.Module = m.name()
	i.Name = m.name()
	i.Kind = int(m.oneOf("\x00\x01\x02\x03", api.ErrByte))
	switch i.Kind {
	case 0:
		i.Type = m.u32()
	case 1:
		i.Limits = m.table()
	case 2:
		i.Limits = m.limits()
	default:
		i.Global = m.global()
	}
	return i
}

func (m *model) had() (x api.Export) {
	x.Name = m.name()
	x.Kind = int(m.oneOf("\x00\x01\x02\x03", api.ErrByte))
	x.Index = m.u32()
	return x
}

func (m *model) cell() (c api.Cell) {
	c.Type = m.global()
	c.Init = m.expr()
	return c
}

func (m *model) elem() (e api.Elem) {
	e.Table = m.u32()
	e.Offset = m.expr()
	e.Funcs = many(m, m.u32)
	return e
}

func (m *model) data() (d api.Data) {
	d.Memory = m.u32()
	d.Offset = m.expr()
	d.Bytes = []byte(m.take(m.u32()))
	return d
}

func (m *model) body() (f api.Func) {
	return within(m, func(in *model) (f api.Func) {
		f.Locals = in.locals()
		f.Body = in.expr()
		return f
	})
}

// module: all that is behind the first eight bytes.
func (m *model) module() (a api.Module) {
	var kinds []uint32
	contents := map[byte]func(in *model){
		0:    func(in *model) { in.name(); in.s = "" },
		1:    func(in *model) { a.Types = many(in, in.funcType) },
		2:    func(in *model) { a.Imports = many(in, in.wanted) },
		3:    func(in *model) { kinds = many(in, in.u32) },
		4:    func(in *model) { a.Tables = many(in, in.table) },
		5:    func(in *model) { a.Memories = many(in, in.limits) },
		6:    func(in *model) { a.Globals = many(in, in.cell) },
		7:    func(in *model) { a.Exports = many(in, in.had) },
		8:    func(in *model) { a.Starts, a.Start = true, in.u32() },
		9:    func(in *model) { a.Elems = many(in, in.elem) },
		0x0a: func(in *model) { a.Funcs = many(in, in.body) },
		0x0b: func(in *model) { a.Datas = many(in, in.data) },
	}
	greatest := byte(0)
	for m.s != "" {
		number := m.byte()
		refuse(number > 0x0b || number != 0 && number <= greatest, api.ErrSection)
		greatest = max(greatest, number)
		within(m, func(in *model) bool { contents[number](in); return true })
	}
	refuse(len(kinds) != len(a.Funcs), api.ErrCount)
	for i := range kinds {
		a.Funcs[i].Type = kinds[i]
	}
	return a
}

// expectModel holds what Decode answers, with sat and without, against the chapter's words.
func expectModel(t *testing.T, s string) {
	t.Helper()
	for _, sat := range []bool{false, true} {
		want, e := read(s, sat)
		expect(t, s, sat, want, e)
	}
}

// Modules without a pattern, with their bytes

// u32: a number, and its bytes, which may be more than it needs.
func (d *dice) u32() (uint32, string) {
	n := uint32(d.below(5))
	switch d.below(4) {
	case 0:
		n = uint32(d.next()) >> d.below(32)
	case 1:
		n = uint32(1)<<d.below(32) + uint32(d.below(3)) - 1
	}
	least := 1
	if d.below(4) == 0 {
		least = 1 + d.below(5)
	}
	return n, lebOf(uint64(n), least)
}

// count: a number of things ahead of them, in more bytes than it needs now and then.
func (d *dice) count(n int) string {
	if d.below(4) == 0 {
		return lebOf(uint64(n), 1+d.below(5))
	}
	return leb(uint64(n))
}

// some: a list of a few things, and its bytes.
func some[T any](d *dice, one func() (T, string)) (list []T, s string) {
	n := d.below(4)
	for range n {
		thing, bytes := one()
		list, s = append(list, thing), s+bytes
	}
	return list, d.count(n) + s
}

func (d *dice) name() (string, string) {
	name := []string{"", "a", "env", "\u00e9\u20ac\U0001f600", "\x00", "memory", strings.Repeat("n", 130)}[d.below(7)]
	return name, d.count(len(name)) + name
}

func (d *dice) value() (byte, string) {
	v := []byte{api.I32, api.I64, api.F32, api.F64}[d.below(4)]
	return v, string([]byte{v})
}

func (d *dice) flag() (bool, string) {
	if d.below(2) == 0 {
		return false, "\x00"
	}
	return true, "\x01"
}

func (d *dice) limits() (l api.Limits, s string) {
	has, flag := d.flag()
	least, s := d.u32()
	l = api.Limits{Min: least, Has: has}
	if !has {
		return l, flag + s
	}
	most, behind := d.u32()
	l.Max = most
	return l, flag + s + behind
}

func (d *dice) table() (api.Limits, string) {
	l, s := d.limits()
	return l, "\x70" + s
}

func (d *dice) global() (api.GlobalType, string) {
	v, s := d.value()
	mut, flag := d.flag()
	return api.GlobalType{Type: v, Mut: mut}, s + flag
}

func (d *dice) funcType() (api.FuncType, string) {
	params, s := some(d, d.value)
	results, behind := some(d, d.value)
	return api.FuncType{Params: params, Results: results}, "\x60" + s + behind
}

// sample: an instruction, and its bytes.
type sample struct {
	want  api.Instr
	bytes string
}

func samples() []sample {
	return []sample{
		{api.Instr{Op: 0x01}, "\x01"},
		{api.Instr{Op: 0x6a}, "\x6a"},
		{api.Instr{Op: 0x41, Bits: 7}, "\x41\x07"},
		{api.Instr{Op: 0x41, Bits: 0xffffffff}, "\x41\xff\x7f"},
		{api.Instr{Op: 0x42, Bits: 0xffffffffffffffff}, "\x42\x7f"},
		{api.Instr{Op: 0x43, Bits: 0x0b0b0b0b}, "\x43\x0b\x0b\x0b\x0b"},
		{api.Instr{Op: 0x44, Bits: 0x0807060504030201}, "\x44\x01\x02\x03\x04\x05\x06\x07\x08"},
		{api.Instr{Op: 0x20, A: 300}, "\x20\xac\x02"},
		{api.Instr{Op: 0x23}, "\x23\x80\x00"},
		{api.Instr{Op: 0x28, A: 2, B: 8}, "\x28\x02\x08"},
		{api.Instr{Op: 0x11, A: 1}, "\x11\x01\x00"},
		{api.Instr{Op: 0x40}, "\x40\x00"},
		{api.Instr{Op: 0x0e, List: []uint32{1, 2}, A: 3}, "\x0e\x02\x01\x02\x03"},
		{api.Instr{Op: 0x02}, "\x02\x40\x0b"},
		{api.Instr{Op: 0x03, Type: api.F64, Then: []api.Instr{{Op: 0x0c, A: 1}}}, "\x03\x7c\x0c\x01\x0b"},
		{api.Instr{Op: 0x04, Then: []api.Instr{{Op: 0x01}}, Has: true, Else: []api.Instr{{Op: 0x00}, {Op: 0x0f}}}, "\x04\x40\x01\x05\x00\x0f\x0b"},
	}
}

func (d *dice) expr() (list []api.Instr, s string) {
	all := samples()
	for range d.below(4) {
		x := all[d.below(len(all))]
		list, s = append(list, x.want), s+x.bytes
	}
	return list, s + "\x0b"
}

func (d *dice) wanted() (api.Import, string) {
	of, s := d.name()
	name, behind := d.name()
	i := api.Import{Module: of, Name: name, Kind: d.below(4)}
	s += behind + string([]byte{byte(i.Kind)})
	switch i.Kind {
	case api.Function:
		i.Type, behind = d.u32()
	case api.Table:
		i.Limits, behind = d.table()
	case api.Memory:
		i.Limits, behind = d.limits()
	case api.Global:
		i.Global, behind = d.global()
	}
	return i, s + behind
}

func (d *dice) had() (api.Export, string) {
	name, s := d.name()
	kind := d.below(4)
	index, behind := d.u32()
	return api.Export{Name: name, Kind: kind, Index: index}, s + string([]byte{byte(kind)}) + behind
}

func (d *dice) cell() (api.Cell, string) {
	of, s := d.global()
	init, behind := d.expr()
	return api.Cell{Type: of, Init: init}, s + behind
}

func (d *dice) elem() (api.Elem, string) {
	table, s := d.u32()
	offset, next := d.expr()
	funcs, last := some(d, d.u32)
	return api.Elem{Table: table, Offset: offset, Funcs: funcs}, s + next + last
}

func (d *dice) data() (api.Data, string) {
	memory, s := d.u32()
	offset, next := d.expr()
	bytes := make([]byte, d.below(5))
	for i := range bytes {
		bytes[i] = byte(d.next())
	}
	return api.Data{Memory: memory, Offset: offset, Bytes: bytes}, s + next + d.count(len(bytes)) + string(bytes)
}

// locals: some of them, in groups, some of which have none, or the type of the one ahead.
func (d *dice) locals() (list []byte, s string) {
	groups, s := some(d, func() ([]byte, string) {
		n := d.below(4)
		v, s := d.value()
		return times(n, v), d.count(n) + s
	})
	for _, g := range groups {
		list = append(list, g...)
	}
	return list, s
}

func (d *dice) body() (api.Func, string) {
	locals, s := d.locals()
	body, behind := d.expr()
	s += behind
	return api.Func{Locals: locals, Body: body}, d.count(len(s)) + s
}

// piece: a section's number, and its content.
type piece struct {
	number  int
	content string
}

// functions: as many functions as types for them, and the contents of both sections.
func (d *dice) functions() (list []api.Func, types, bodies string) {
	n := d.below(4)
	for range n {
		f, s := d.body()
		of, behind := d.u32()
		f.Type = of
		list, types, bodies = append(list, f), types+behind, bodies+s
	}
	return list, d.count(n) + types, d.count(n) + bodies
}

// grown: a module with any of the sections, and these.
func (d *dice) grown() (m api.Module, pieces []piece) {
	put := func(number int, content string) { pieces = append(pieces, piece{number, content}) }
	has := func() bool { return d.below(3) > 0 }
	if has() {
		m.Types, pieces = grow(d, 1, pieces, d.funcType)
	}
	if has() {
		m.Imports, pieces = grow(d, 2, pieces, d.wanted)
	}
	funcs, types, bodies := d.functions()
	m.Funcs = funcs
	if len(funcs) > 0 || has() {
		put(3, types)
	}
	if has() {
		m.Tables, pieces = grow(d, 4, pieces, d.table)
	}
	if has() {
		m.Memories, pieces = grow(d, 5, pieces, d.limits)
	}
	if has() {
		m.Globals, pieces = grow(d, 6, pieces, d.cell)
	}
	if has() {
		m.Exports, pieces = grow(d, 7, pieces, d.had)
	}
	if has() {
		start, s := d.u32()
		m.Starts, m.Start = true, start
		put(8, s)
	}
	if has() {
		m.Elems, pieces = grow(d, 9, pieces, d.elem)
	}
	if len(funcs) > 0 || has() {
		put(0x0a, bodies)
	}
	if has() {
		m.Datas, pieces = grow(d, 0x0b, pieces, d.data)
	}
	return m, pieces
}

// grow: a list, and its section behind the others.
func grow[T any](d *dice, number int, pieces []piece, one func() (T, string)) ([]T, []piece) {
	list, content := some(d, one)
	return list, append(pieces, piece{number, content})
}

// joined: sections behind the first eight bytes, and where each of them begins, and the last one ends.
func joined(pieces ...piece) (s string, bounds []int) {
	s = head
	bounds = []int{len(s)}
	for _, p := range pieces {
		s += sec(p.number, p.content)
		bounds = append(bounds, len(s))
	}
	return s, bounds
}

// whole: sections behind the first eight bytes.
func whole(pieces ...piece) string {
	s, _ := joined(pieces...)
	return s
}
