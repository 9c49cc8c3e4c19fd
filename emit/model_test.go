package emit_test

import (
	"math/big"
	"reflect"
	"strings"
	"testing"
	"unicode/utf8"

	"trunnion/api"
	"trunnion/code"
	"trunnion/emit"
	"trunnion/module"
	"trunnion/scan"
)

// What the tests lean on

// head: how each module begins.
const head = "\x00asm\x01\x00\x00\x00"

// same says whether two values are, a list without an element being the same, nil or not.
func same(a, b any) bool { return sameValue(reflect.ValueOf(a), reflect.ValueOf(b)) }

func sameValue(a, b reflect.Value) bool {
	switch a.Kind() {
	case reflect.Slice:
		if a.Len() != b.Len() {
			return false
		}
		for i := range a.Len() {
			if !sameValue(a.Index(i), b.Index(i)) {
				return false
			}
		}
		return true
	case reflect.Struct:
		for i := range a.NumField() {
			if !sameValue(a.Field(i), b.Field(i)) {
				return false
			}
		}
		return true
	}
	return a.Interface() == b.Interface()
}

// roomy: a value like it in new memory, with room behind each list that holds something.
func roomy[T any](a T) T { return copied(reflect.ValueOf(a), 2, false).Interface().(T) }

// full: a value like it in new memory, whose lists have what was in the room behind them, too.
func full[T any](a T) T { return copied(reflect.ValueOf(a), 0, true).Interface().(T) }

// plain: a value like it in new memory.
func plain[T any](a T) T { return copied(reflect.ValueOf(a), 0, false).Interface().(T) }

func copied(v reflect.Value, room int, spare bool) reflect.Value {
	switch v.Kind() {
	case reflect.Slice:
		if v.IsNil() && room == 0 {
			return v
		}
		if spare {
			v = v.Slice(0, v.Cap())
		}
		list := reflect.MakeSlice(v.Type(), v.Len()+room, v.Len()+room)
		for i := range list.Len() {
			if i < v.Len() {
				list.Index(i).Set(copied(v.Index(i), room, spare))
			} else {
				spoil(list.Index(i))
			}
		}
		return list.Slice(0, v.Len())
	case reflect.Struct:
		other := reflect.New(v.Type()).Elem()
		for i := range v.NumField() {
			other.Field(i).Set(copied(v.Field(i), room, spare))
		}
		return other
	}
	return v
}

// spoil changes all that can be got at from a value, the room behind its lists too.
func spoil(v reflect.Value) {
	switch v.Kind() {
	case reflect.Slice:
		v = v.Slice(0, v.Cap())
		for i := range v.Len() {
			spoil(v.Index(i))
		}
	case reflect.Struct:
		for i := range v.NumField() {
			spoil(v.Field(i))
		}
	case reflect.String:
		v.SetString("spoilt")
	case reflect.Bool:
		v.SetBool(!v.Bool())
	case reflect.Int:
		v.SetInt(v.Int() + 1)
	default:
		v.SetUint(v.Uint() ^ 0x55)
	}
}

// expect holds what Encode answers against what is wanted: of a module, and of the same one with empty lists and something behind each list, which both stay as they are. What is encoded is decoded as it was.
func expect(t *testing.T, m api.Module, want string, e api.Errno) {
	t.Helper()
	if s, told := encoded(m); s != want || told != e {
		t.Fatalf("the model: %.200v: % .200x %d, not % .200x %d", m, s, told, want, e)
	}
	for _, x := range []api.Module{m, roomy(m)} {
		before := full(x)
		b, got := emit.Encode(x)
		if got != e || string(b) != want {
			t.Fatalf("%.500v: % .200x %d, not % .200x %d", m, b, got, want, e)
		}
		if !reflect.DeepEqual(full(x), before) {
			t.Fatalf("%.500v: now %.500v", before, full(x))
		}
	}
	if e == api.OK {
		read, told := module.Decode([]byte(want), true)
		if told != api.OK || !same(read, m) || !emit.Same(read, m) {
			t.Fatalf("% .200x: %d %.500v, not %.500v", want, told, read, m)
		}
	}
}

// expectModel holds what Encode answers against the chapter's words, and tells that error.
func expectModel(t *testing.T, m api.Module) api.Errno {
	t.Helper()
	want, e := encoded(m)
	expect(t, m, want, e)
	return e
}

// expectExpr holds what Expr answers against what is wanted, in the same ways; nothing is wanted of what is no expression.
func expectExpr(t *testing.T, list []api.Instr, want string) {
	t.Helper()
	if s, ok := exprOf(list); s != want || ok != (want != "") {
		t.Fatalf("the model: %.200v: % .200x %v, not % .200x", list, s, ok, want)
	}
	for _, x := range [][]api.Instr{list, roomy(list)} {
		before := full(x)
		b, ok := emit.Expr(x)
		if string(b) != want || ok != (want != "") {
			t.Fatalf("%.500v: % .200x %v, not % .200x", list, b, ok, want)
		}
		if !reflect.DeepEqual(full(x), before) {
			t.Fatalf("%.500v: now %.500v", before, full(x))
		}
	}
	if want != "" {
		c := scan.New([]byte(want))
		if read := code.Expr(c, true); !same(read, list) || c.Err() != api.OK || c.Left() != 0 {
			t.Fatalf("% .200x: %d %.500v, not %.500v", want, c.Err(), read, list)
		}
	}
}

// expectExprModel holds what Expr answers against the chapter's words, and says whether it is an expression.
func expectExprModel(t *testing.T, list []api.Instr) bool {
	t.Helper()
	want, ok := exprOf(list)
	expectExpr(t, list, want)
	return ok
}

// dice: numbers without a pattern, the same at each run.
type dice struct{ x uint64 }

func newDice() *dice { return &dice{0x9e3779b97f4a7c15} }

func (d *dice) next() uint64 {
	d.x ^= d.x << 13
	d.x ^= d.x >> 7
	d.x ^= d.x << 17
	return d.x
}

// below: a number from 0 to n - 1.
func (d *dice) below(n int) int { return int(d.next() >> 1 % uint64(n)) }

// one: one of these.
func one[T any](d *dice, these ...T) T { return these[d.below(len(these))] }

// times: a thing so often.
func times[T any](n int, thing T) (list []T) {
	for range n {
		list = append(list, thing)
	}
	return list
}

// leb: a number's shortest bytes.
func leb(n uint64) string { return lebOf(n, 1) }

// lebOf: a number in so many bytes at least.
func lebOf(n uint64, least int) string {
	var b []byte
	for ; n > 127 || least > 1; least-- {
		b = append(b, byte(n|128))
		n >>= 7
	}
	return string(append(b, byte(n)))
}

// signed: a signed number in so many bytes at least: the least number of bytes in whose bits, seven each, it lies, and these bits.
func signed(n int64, least int) string {
	bytes := uint(least)
	for {
		half := new(big.Int).Lsh(big.NewInt(1), 7*bytes-1)
		if big.NewInt(n).Cmp(half) < 0 && big.NewInt(n).Cmp(new(big.Int).Neg(half)) >= 0 {
			break
		}
		bytes++
	}
	rest := new(big.Int).Mod(big.NewInt(n), new(big.Int).Lsh(big.NewInt(1), 7*bytes))
	b := make([]byte, bytes)
	for i := range b {
		b[i] = byte(new(big.Int).Mod(rest, big.NewInt(128)).Int64())
		if i < len(b)-1 {
			b[i] += 128
		}
		rest.Rsh(rest, 7)
	}
	return string(b)
}

// sized: bytes, behind how many they are.
func sized(s string) string { return leb(uint64(len(s))) + s }

// vec: a list of things, each of them its bytes.
func vec(things ...string) string {
	return leb(uint64(len(things))) + strings.Join(things, "")
}

// sec: a section of a number and a content.
func sec(number int, content string) string { return string([]byte{byte(number)}) + sized(content) }

// The chapter's words, written out

// immOf: what stands behind an opcode that may stand in an expression; nothing, if it may not.
func immOf(op int) string {
	is := func(from, to int) bool { return op >= from && op <= to }
	switch {
	case is(0x00, 0x01), op == 0x0f, is(0x1a, 0x1b), is(0x45, 0xbf), is(0xfc00, 0xfc07):
		return "none"
	case is(0x02, 0x04):
		return "block"
	case is(0x0c, 0x0d):
		return "label"
	case op == 0x0e:
		return "labels"
	case op == 0x10, is(0x20, 0x24):
		return "index"
	case op == 0x11:
		return "indirect"
	case is(0x28, 0x3e):
		return "memory"
	case is(0x3f, 0x40):
		return "zero"
	case op == 0x41:
		return "i32"
	case op == 0x42:
		return "i64"
	case op == 0x43:
		return "f32"
	case op == 0x44:
		return "f64"
	}
	return ""
}

// own: an instruction with just those of its fields that are its opcode's own; a number cut off, if it is of 32 bits.
func own(in api.Instr) api.Instr {
	o := api.Instr{Op: in.Op}
	switch immOf(in.Op) {
	case "block":
		o.Type, o.Then = in.Type, in.Then
		if in.Op == 4 && in.Has {
			o.Has, o.Else = true, in.Else
		}
	case "label", "index", "indirect":
		o.A = in.A
	case "labels":
		o.List, o.A = in.List, in.A
	case "memory":
		o.A, o.B = in.A, in.B
	case "i32", "f32":
		o.Bits = in.Bits % (1 << 32)
	case "i64", "f64":
		o.Bits = in.Bits
	}
	return o
}

// each tells an instruction, and all that lie in it, whatever its opcode, each with how many it lies in.
func each(list []api.Instr, depth int, tell func(in api.Instr, depth int)) {
	for _, in := range list {
		tell(in, depth)
		each(in.Then, depth+1, tell)
		each(in.Else, depth+1, tell)
	}
}

// deep says whether a list lies in more than 64 blocks.
func deep(list []api.Instr) (is bool) {
	each(list, 0, func(in api.Instr, depth int) {
		is = is || depth > 64 || depth == 64 && in.Op >= 2 && in.Op <= 4
	})
	return is
}

// written: an expression's bytes, of those of its fields alone that are their opcode's own.
func written(list []api.Instr) string { return instrs(list) + "\x0b" }

func instrs(list []api.Instr) string {
	var s strings.Builder
	for _, in := range list {
		s.WriteString(instrOf(own(in)))
	}
	return s.String()
}

func instrOf(in api.Instr) string {
	s := string([]byte{byte(in.Op)})
	if in.Op > 255 {
		s = "\xfc" + string([]byte{byte(in.Op % 256)})
	}
	switch immOf(in.Op) {
	case "block":
		of := in.Type
		if of == 0 {
			of = 0x40
		}
		s += string([]byte{of}) + instrs(in.Then)
		if in.Has {
			s += "\x05" + instrs(in.Else)
		}
		return s + "\x0b"
	case "label", "index":
		return s + leb(uint64(in.A))
	case "labels":
		return s + vec(each32(in.List)...) + leb(uint64(in.A))
	case "indirect":
		return s + leb(uint64(in.A)) + "\x00"
	case "memory":
		return s + leb(uint64(in.A)) + leb(uint64(in.B))
	case "zero":
		return s + "\x00"
	case "i32":
		return s + signed(int64(int32(in.Bits)), 1)
	case "i64":
		return s + signed(int64(in.Bits), 1)
	case "f32":
		return s + lowest(in.Bits, 4)
	case "f64":
		return s + lowest(in.Bits, 8)
	}
	return s
}

func each32(list []uint32) (all []string) {
	for _, n := range list {
		all = append(all, leb(uint64(n)))
	}
	return all
}

func lowest(n uint64, bytes int) (s string) {
	for range bytes {
		s += string([]byte{byte(n % 256)})
		n /= 256
	}
	return s
}

// exprOf: what Expr should answer.
func exprOf(list []api.Instr) (string, bool) {
	fine := !deep(list)
	each(list, 0, func(in api.Instr, _ int) {
		fine = fine && immOf(in.Op) != "" && isType(in.Type) && same(in, own(in)) && len(in.List) <= 4096
	})
	if !fine {
		return "", false
	}
	return written(list), true
}

// isType: of an instruction.
func isType(t byte) bool { return t == 0 || isTypeOfValue(t) }

func isTypeOfValue(t byte) bool { return t >= 0x7c && t <= 0x7f }

// encoded: what Encode should answer.
func encoded(m api.Module) (string, api.Errno) {
	var all [][]api.Instr
	for _, f := range m.Funcs {
		all = append(all, f.Body)
	}
	for _, g := range m.Globals {
		all = append(all, g.Init)
	}
	for _, e := range m.Elems {
		all = append(all, e.Offset)
	}
	for _, d := range m.Datas {
		all = append(all, d.Offset)
	}
	for _, list := range all {
		if deep(list) {
			return "", api.ErrLimit
		}
	}
	fine := typesAndNames(m)
	for _, list := range all {
		each(list, 0, func(in api.Instr, _ int) {
			fine = fine && immOf(in.Op) != "" && isType(in.Type) && (!in.Has || in.Op == 4)
		})
	}
	if !fine {
		return "", api.ErrArg
	}
	s := bytesOf(m)
	if len(s) > 65536 || manyItems(m) {
		return "", api.ErrLimit
	}
	for _, list := range all {
		each(list, 0, func(in api.Instr, _ int) { fine = fine && same(in, own(in)) })
	}
	if !fine || !same(m, ownOf(m)) {
		return "", api.ErrArg
	}
	return s, api.OK
}

// typesAndNames says whether those that stand outside of expressions are some, and the kinds, too.
func typesAndNames(m api.Module) bool {
	fine := true
	values := func(list ...byte) {
		for _, t := range list {
			fine = fine && isTypeOfValue(t)
		}
	}
	for _, f := range m.Types {
		values(f.Params...)
		values(f.Results...)
	}
	for _, i := range m.Imports {
		fine = fine && utf8.ValidString(i.Module) && utf8.ValidString(i.Name) && 0 <= i.Kind && i.Kind <= 3
		if i.Kind == 3 {
			values(i.Global.Type)
		}
	}
	for _, f := range m.Funcs {
		values(f.Locals...)
	}
	for _, g := range m.Globals {
		values(g.Type.Type)
	}
	for _, x := range m.Exports {
		fine = fine && utf8.ValidString(x.Name) && 0 <= x.Kind && x.Kind <= 3
	}
	return fine
}

// manyItems says whether a list of what is written has more things than it may, or a function more locals.
func manyItems(m api.Module) bool {
	most := max(len(m.Types), len(m.Imports), len(m.Funcs), len(m.Tables), len(m.Memories), len(m.Globals), len(m.Exports), len(m.Elems), len(m.Datas))
	labels := func(list []api.Instr) {
		eachOwn(list, func(in api.Instr) { most = max(most, len(in.List)) })
	}
	for _, f := range m.Types {
		most = max(most, len(f.Params), len(f.Results))
	}
	for _, f := range m.Funcs {
		if len(f.Locals) > 1024 {
			return true
		}
		labels(f.Body)
	}
	for _, g := range m.Globals {
		labels(g.Init)
	}
	for _, e := range m.Elems {
		most = max(most, len(e.Funcs))
		labels(e.Offset)
	}
	for _, d := range m.Datas {
		labels(d.Offset)
	}
	return most > 4096
}

// eachOwn tells each instruction that is written, with those of its fields that are.
func eachOwn(list []api.Instr, tell func(in api.Instr)) {
	for _, in := range list {
		in = own(in)
		tell(in)
		eachOwn(in.Then, tell)
		eachOwn(in.Else, tell)
	}
}

// ownLimits: without a greatest, if there is none.
func ownLimits(l api.Limits) api.Limits {
	if !l.Has {
		l.Max = 0
	}
	return l
}

// ownOf: a module with just those of its fields that stand in its bytes; its instructions as they are.
func ownOf(m api.Module) api.Module {
	m = plain(m)
	for n, i := range m.Imports {
		o := api.Import{Module: i.Module, Name: i.Name, Kind: i.Kind}
		switch i.Kind {
		case 0:
			o.Type = i.Type
		case 1, 2:
			o.Limits = ownLimits(i.Limits)
		case 3:
			o.Global = i.Global
		}
		m.Imports[n] = o
	}
	for n, l := range m.Tables {
		m.Tables[n] = ownLimits(l)
	}
	for n, l := range m.Memories {
		m.Memories[n] = ownLimits(l)
	}
	if !m.Starts {
		m.Start = 0
	}
	return m
}

// texts: what is said of each of some things.
func texts[T any](list []T, say func(T) string) (all []string) {
	for _, x := range list {
		all = append(all, say(x))
	}
	return all
}

func limitsBytes(l api.Limits) string {
	if l.Has {
		return "\x01" + leb(uint64(l.Min)) + leb(uint64(l.Max))
	}
	return "\x00" + leb(uint64(l.Min))
}

func globalBytes(g api.GlobalType) string {
	if g.Mut {
		return string([]byte{g.Type, 1})
	}
	return string([]byte{g.Type, 0})
}

func importBytes(i api.Import) string {
	s := sized(i.Module) + sized(i.Name) + string([]byte{byte(i.Kind)})
	switch i.Kind {
	case 0:
		return s + leb(uint64(i.Type))
	case 1:
		return s + "\x70" + limitsBytes(i.Limits)
	case 2:
		return s + limitsBytes(i.Limits)
	}
	return s + globalBytes(i.Global)
}

// localsBytes: from each place on as many as are the same.
func localsBytes(list []byte) string {
	var groups []string
	for len(list) > 0 {
		n := 1
		for n < len(list) && list[n] == list[0] {
			n++
		}
		groups = append(groups, leb(uint64(n))+string(list[:1]))
		list = list[n:]
	}
	return vec(groups...)
}

// bytesOf: the bytes of a module.
func bytesOf(m api.Module) string {
	contents := [12][]string{
		1: texts(m.Types, func(f api.FuncType) string {
			return "\x60" + sized(string(f.Params)) + sized(string(f.Results))
		}),
		2: texts(m.Imports, importBytes),
		3: texts(m.Funcs, func(f api.Func) string { return leb(uint64(f.Type)) }),
		4: texts(m.Tables, func(l api.Limits) string { return "\x70" + limitsBytes(l) }),
		5: texts(m.Memories, limitsBytes),
		6: texts(m.Globals, func(c api.Cell) string { return globalBytes(c.Type) + written(c.Init) }),
		7: texts(m.Exports, func(x api.Export) string {
			return sized(x.Name) + string([]byte{byte(x.Kind)}) + leb(uint64(x.Index))
		}),
		9: texts(m.Elems, func(e api.Elem) string {
			return leb(uint64(e.Table)) + written(e.Offset) + vec(each32(e.Funcs)...)
		}),
		10: texts(m.Funcs, func(f api.Func) string { return sized(localsBytes(f.Locals) + written(f.Body)) }),
		11: texts(m.Datas, func(d api.Data) string {
			return leb(uint64(d.Memory)) + written(d.Offset) + sized(string(d.Bytes))
		}),
	}
	s := head
	for number, things := range contents {
		if len(things) > 0 {
			s += sec(number, vec(things...))
		}
		if number == 8 && m.Starts {
			s += sec(8, leb(uint64(m.Start)))
		}
	}
	return s
}

// Modules without a pattern

// u32: numbers of all sizes, many of them near a bound at which they take a byte more.
func (d *dice) u32() uint32 {
	switch d.below(4) {
	case 0:
		return uint32(d.next()) >> d.below(32)
	case 1:
		return uint32(1)<<d.below(32) + uint32(d.below(3)) - 1
	}
	return uint32(d.below(5))
}

// u64: the same, of 64 bits, and those below nought.
func (d *dice) u64() uint64 {
	switch d.below(4) {
	case 0:
		return d.next() >> d.below(64)
	case 1:
		return uint64(1)<<d.below(64) + uint64(d.below(3)) - 1
	case 2:
		return -(uint64(1)<<d.below(64) + uint64(d.below(3)) - 1)
	}
	return uint64(d.below(5))
}

func (d *dice) name() string {
	return one(d, "", "a", "env", "\u00e9\u20ac\U0001f600", "\x00", "memory", strings.Repeat("n", 127), strings.Repeat("n", 128))
}

func (d *dice) value() byte { return one[byte](d, api.I32, api.I64, api.F32, api.F64) }

// few: up to three of what one tells.
func few[T any](d *dice, tell func() T) []T {
	if d.below(3) == 0 {
		return nil
	}
	list := []T{}
	for range d.below(4) {
		list = append(list, tell())
	}
	return list
}

func (d *dice) limits() api.Limits {
	l := api.Limits{Min: d.u32(), Has: d.below(2) == 0}
	if l.Has {
		l.Max = d.u32()
	}
	return l
}

func (d *dice) global() api.GlobalType {
	return api.GlobalType{Type: d.value(), Mut: d.below(2) == 0}
}

func (d *dice) funcType() api.FuncType {
	return api.FuncType{Params: few(d, d.value), Results: few(d, d.value)}
}

func (d *dice) wanted() api.Import {
	i := api.Import{Module: d.name(), Name: d.name(), Kind: d.below(4)}
	switch i.Kind {
	case 0:
		i.Type = d.u32()
	case 3:
		i.Global = d.global()
	default:
		i.Limits = d.limits()
	}
	return i
}

// ops: all opcodes that may stand in an expression.
func ops() (list []int) {
	for op := range 0x10000 {
		if immOf(op) != "" {
			list = append(list, op)
		}
	}
	return list
}

// instr: one of each kind as often as of each other.
func (d *dice) instr(depth int) api.Instr {
	op := one(d, 0x00, 0x0f, 0x1b, 0x6a, 0xbf, 0xfc00, 0xfc07, 0x02, 0x03, 0x04, 0x04, 0x0c, 0x0d, 0x0e, 0x0e, 0x10, 0x20, 0x24, 0x11, 0x28, 0x3e, 0x3f, 0x40, 0x41, 0x41, 0x42, 0x42, 0x43, 0x44)
	in := own(api.Instr{Op: op, Type: one(d, 0, d.value()), A: d.u32(), B: d.u32(), Bits: d.u64(), List: few(d, d.u32)})
	if immOf(op) == "block" && depth < 4 {
		in.Then = d.exprAt(depth + 1)
		if op == 0x04 && d.below(2) == 0 {
			in.Has, in.Else = true, d.exprAt(depth+1)
		}
	}
	return in
}

func (d *dice) exprAt(depth int) []api.Instr {
	return few(d, func() api.Instr { return d.instr(depth) })
}

func (d *dice) expr() []api.Instr { return d.exprAt(0) }

// locals: some, often of the type of the one ahead.
func (d *dice) locals() (list []byte) {
	for range d.below(5) {
		list = append(list, times(d.below(4), d.value())...)
	}
	return list
}

// module: a module with any of the sections.
func (d *dice) module() api.Module {
	m := api.Module{
		Types:    few(d, d.funcType),
		Imports:  few(d, d.wanted),
		Funcs:    few(d, func() api.Func { return api.Func{Type: d.u32(), Locals: d.locals(), Body: d.expr()} }),
		Tables:   few(d, d.limits),
		Memories: few(d, d.limits),
		Globals:  few(d, func() api.Cell { return api.Cell{Type: d.global(), Init: d.expr()} }),
		Exports: few(d, func() api.Export {
			return api.Export{Name: d.name(), Kind: d.below(4), Index: d.u32()}
		}),
		Starts: d.below(2) == 0,
		Elems: few(d, func() api.Elem {
			return api.Elem{Table: d.u32(), Offset: d.expr(), Funcs: few(d, d.u32)}
		}),
		Datas: few(d, func() api.Data {
			return api.Data{Memory: d.u32(), Offset: d.expr(), Bytes: few(d, func() byte { return byte(d.next()) })}
		}),
	}
	if m.Starts {
		m.Start = d.u32()
	}
	return m
}
