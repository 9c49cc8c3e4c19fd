package opcode

import (
	"math"
	"slices"
	"strings"
	"testing"
	"unicode"

	"trunnion/api"
	"trunnion/numeric"
)

// listed: the chapter's list, and layer 14's with its names, one by one from the first opcode on.
var listed = []struct {
	first int
	imm   int
	names string
}{
	{0x00, api.ImmNone, "unreachable nop"},
	{0x02, api.ImmBlock, "block loop if"},
	{0x05, api.ImmMark, "else"},
	{0x0b, api.ImmMark, "end"},
	{0x0c, api.ImmLabel, "br br_if"},
	{0x0e, api.ImmLabels, "br_table"},
	{0x0f, api.ImmNone, "return"},
	{0x10, api.ImmIndex, "call"},
	{0x11, api.ImmIndirect, "call_indirect"},
	{0x1a, api.ImmNone, "drop select"},
	{0x20, api.ImmIndex, "local.get local.set local.tee global.get global.set"},
	{0x28, api.ImmMemory, "i32.load i64.load f32.load f64.load"},
	{0x2c, api.ImmMemory, "i32.load8_s i32.load8_u i32.load16_s i32.load16_u"},
	{0x30, api.ImmMemory, "i64.load8_s i64.load8_u i64.load16_s i64.load16_u i64.load32_s i64.load32_u"},
	{0x36, api.ImmMemory, "i32.store i64.store f32.store f64.store"},
	{0x3a, api.ImmMemory, "i32.store8 i32.store16 i64.store8 i64.store16 i64.store32"},
	{0x3f, api.ImmZero, "memory.size memory.grow"},
	{0x41, api.ImmI32, "i32.const"},
	{0x42, api.ImmI64, "i64.const"},
	{0x43, api.ImmF32, "f32.const"},
	{0x44, api.ImmF64, "f64.const"},
	{0x45, api.ImmNone, "i32.eqz i32.eq i32.ne i32.lt_s i32.lt_u i32.gt_s i32.gt_u i32.le_s i32.le_u i32.ge_s i32.ge_u"},
	{0x50, api.ImmNone, "i64.eqz i64.eq i64.ne i64.lt_s i64.lt_u i64.gt_s i64.gt_u i64.le_s i64.le_u i64.ge_s i64.ge_u"},
	{0x5b, api.ImmNone, "f32.eq f32.ne f32.lt f32.gt f32.le f32.ge"},
	{0x61, api.ImmNone, "f64.eq f64.ne f64.lt f64.gt f64.le f64.ge"},
	{0x67, api.ImmNone, "i32.clz i32.ctz i32.popcnt i32.add i32.sub i32.mul i32.div_s i32.div_u i32.rem_s i32.rem_u i32.and i32.or i32.xor i32.shl i32.shr_s i32.shr_u i32.rotl i32.rotr"},
	{0x79, api.ImmNone, "i64.clz i64.ctz i64.popcnt i64.add i64.sub i64.mul i64.div_s i64.div_u i64.rem_s i64.rem_u i64.and i64.or i64.xor i64.shl i64.shr_s i64.shr_u i64.rotl i64.rotr"},
	{0x8b, api.ImmNone, "f32.abs f32.neg f32.ceil f32.floor f32.trunc f32.nearest f32.sqrt f32.add f32.sub f32.mul f32.div f32.min f32.max f32.copysign"},
	{0x99, api.ImmNone, "f64.abs f64.neg f64.ceil f64.floor f64.trunc f64.nearest f64.sqrt f64.add f64.sub f64.mul f64.div f64.min f64.max f64.copysign"},
	{0xa7, api.ImmNone, "i32.wrap_i64 i32.trunc_f32_s i32.trunc_f32_u i32.trunc_f64_s i32.trunc_f64_u"},
	{0xac, api.ImmNone, "i64.extend_i32_s i64.extend_i32_u i64.trunc_f32_s i64.trunc_f32_u i64.trunc_f64_s i64.trunc_f64_u"},
	{0xb2, api.ImmNone, "f32.convert_i32_s f32.convert_i32_u f32.convert_i64_s f32.convert_i64_u f32.demote_f64"},
	{0xb7, api.ImmNone, "f64.convert_i32_s f64.convert_i32_u f64.convert_i64_s f64.convert_i64_u f64.promote_f32"},
	{0xbc, api.ImmNone, "i32.reinterpret_f32 i64.reinterpret_f64 f32.reinterpret_i32 f64.reinterpret_i64"},
	{0xfc00, api.ImmNone, "i32.trunc_sat_f32_s i32.trunc_sat_f32_u i32.trunc_sat_f64_s i32.trunc_sat_f64_u i64.trunc_sat_f32_s i64.trunc_sat_f32_u i64.trunc_sat_f64_s i64.trunc_sat_f64_u"},
}

// how many opcodes there are: 172 of one byte, and 8 more.
const many = 180

// entry: an opcode of the list.
type entry struct {
	op   int
	imm  int
	name string
}

// entries: all of the list, from the lowest on.
func entries() []entry {
	var l []entry
	for _, g := range listed {
		for i, name := range strings.Fields(g.names) {
			l = append(l, entry{g.first + i, g.imm, name})
		}
	}
	return l
}

// byOp: the list by its opcodes.
func byOp() map[int]entry {
	m := map[int]entry{}
	for _, x := range entries() {
		m[x.op] = x
	}
	return m
}

// byName: the list by its names.
func byName() map[string]int {
	m := map[string]int{}
	for _, x := range entries() {
		m[x.name] = x.op
	}
	return m
}

// accesses: of each load and store what it does, written out.
var accesses = map[int]api.Access{
	0x28: {Type: api.I32, Bytes: 4},
	0x29: {Type: api.I64, Bytes: 8},
	0x2a: {Type: api.F32, Bytes: 4},
	0x2b: {Type: api.F64, Bytes: 8},
	0x2c: {Type: api.I32, Bytes: 1, Signed: true},
	0x2d: {Type: api.I32, Bytes: 1},
	0x2e: {Type: api.I32, Bytes: 2, Signed: true},
	0x2f: {Type: api.I32, Bytes: 2},
	0x30: {Type: api.I64, Bytes: 1, Signed: true},
	0x31: {Type: api.I64, Bytes: 1},
	0x32: {Type: api.I64, Bytes: 2, Signed: true},
	0x33: {Type: api.I64, Bytes: 2},
	0x34: {Type: api.I64, Bytes: 4, Signed: true},
	0x35: {Type: api.I64, Bytes: 4},
	0x36: {Type: api.I32, Bytes: 4, Store: true},
	0x37: {Type: api.I64, Bytes: 8, Store: true},
	0x38: {Type: api.F32, Bytes: 4, Store: true},
	0x39: {Type: api.F64, Bytes: 8, Store: true},
	0x3a: {Type: api.I32, Bytes: 1, Store: true},
	0x3b: {Type: api.I32, Bytes: 2, Store: true},
	0x3c: {Type: api.I64, Bytes: 1, Store: true},
	0x3d: {Type: api.I64, Bytes: 2, Store: true},
	0x3e: {Type: api.I64, Bytes: 4, Store: true},
}

// numbers: all from below 0 to beyond the last opcode, and some that are far off, each once.
func numbers() []int {
	var l []int
	for op := -0x300; op <= 0x20000; op++ {
		l = append(l, op)
	}
	for _, far := range []int{math.MinInt8, math.MinInt16, math.MinInt32, math.MinInt64, math.MaxInt32, math.MaxUint32, math.MaxInt64, 0xfc0000, 0xfc07 << 16, 1 << 32, 1 << 40, -1 << 32} {
		for d := -0x200; d <= 0x200; d++ {
			// Beyond an end of int it goes round to the other one: a number that is far off too.
			l = append(l, far+d)
		}
	}
	// Numbers whose lowest bits alone are those of an opcode.
	for _, x := range entries() {
		for _, high := range []int{1 << 16, 1 << 31, 1 << 32, 1 << 62, math.MinInt64, -1 << 16} {
			l = append(l, x.op+high)
		}
		l = append(l, -x.op, ^x.op)
	}
	slices.Sort(l)
	return slices.Compact(l)
}

// TestList: the test's own list is as long as the chapter's, has no number and no name twice, and its numbers rise.
func TestList(t *testing.T) {
	l := entries()
	if len(l) != many || len(byOp()) != many || len(byName()) != many || len(accesses) != 23 {
		t.Fatal(len(l), len(byOp()), len(byName()), len(accesses))
	}
	for i := range l[1:] {
		if l[i].op >= l[i+1].op {
			t.Fatalf("%x %x", l[i].op, l[i+1].op)
		}
	}
}

// TestOpcodes: of each opcode of the list what stands behind it, its name, and that it is found by it.
func TestOpcodes(t *testing.T) {
	for _, x := range entries() {
		if imm, ok := Imm(x.op); imm != x.imm || !ok {
			t.Errorf("Imm(%x): %d %v, not %d", x.op, imm, ok, x.imm)
		}
		if name := Name(x.op); name != x.name {
			t.Errorf("Name(%x): %q, not %q", x.op, name, x.name)
		}
		if op, ok := By(x.name); op != x.op || !ok {
			t.Errorf("By(%q): %x %v, not %x", x.name, op, ok, x.op)
		}
	}
}

// TestNumbers: what is an opcode is told as such, what is none: 0 and false, an empty name.
func TestNumbers(t *testing.T) {
	want := byOp()
	for _, op := range numbers() {
		x, is := want[op]
		if imm, ok := Imm(op); imm != x.imm || ok != is {
			t.Fatalf("Imm(%x): %d %v", op, imm, ok)
		}
		if name := Name(op); name != x.name {
			t.Fatalf("Name(%x): %q", op, name)
		}
	}
}

// TestNumericOpcodes: layer 14's opcodes are all here, with nothing behind them, and their names are by its rule of names.
func TestNumericOpcodes(t *testing.T) {
	types := map[string]byte{"i32": api.I32, "i64": api.I64, "f32": api.F32, "f64": api.F64}
	n := 0
	for _, op := range numbers() {
		in, _, out, ok := numeric.Kind(op)
		if !ok {
			continue
		}
		n++
		if imm, ok := Imm(op); imm != api.ImmNone || !ok {
			t.Errorf("%x: %d %v", op, imm, ok)
		}
		first, rest, _ := strings.Cut(Name(op), ".")
		rest = strings.TrimSuffix(strings.TrimSuffix(rest, "_s"), "_u")
		wantIn, wantOut := types[first], types[first]
		if i := strings.LastIndex(rest, "_"); i >= 0 && types[rest[i+1:]] != 0 {
			wantIn = types[rest[i+1:]]
		}
		if strings.Contains(" eqz eq ne lt gt le ge ", " "+rest+" ") {
			wantOut = api.I32
		}
		if in != wantIn || out != wantOut || in == 0 {
			t.Errorf("%x %s: %x %x", op, Name(op), in, out)
		}
		if sat := strings.HasPrefix(rest, "trunc_sat"); sat != numeric.Sat(op) {
			t.Errorf("%x %s: %v", op, Name(op), sat)
		}
	}
	if n != 131 {
		t.Error(n)
	}
}

// TestNames: no two opcodes have one name, none has an empty one, a blank or another sign in it, and each is found by its name.
func TestNames(t *testing.T) {
	seen := map[string]int{}
	for _, op := range numbers() {
		if _, ok := Imm(op); !ok {
			continue
		}
		name := Name(op)
		if other, twice := seen[name]; twice {
			t.Errorf("%x and %x: %q", other, op, name)
		}
		seen[name] = op
		if got, ok := By(name); got != op || !ok {
			t.Errorf("By(%q): %x %v, not %x", name, got, ok, op)
		}
		if name == "" || strings.Trim(name, "abcdefghijklmnopqrstuvwxyz0123456789._") != "" {
			t.Errorf("%x: %q", op, name)
		}
	}
	if len(seen) != many {
		t.Error(len(seen))
	}
}

// askBy: By answers what the list says of that text.
func askBy(t *testing.T, want map[string]int, text string) {
	t.Helper()
	op, is := want[text]
	if got, ok := By(text); got != op || ok != is {
		t.Errorf("By(%q): %x %v, not %x %v", text, got, ok, op, is)
	}
}

// TestNoNames: texts that are near to a name are none, but where the list has them.
func TestNoNames(t *testing.T) {
	want := byName()
	signs := []string{" ", "\t", "\n", "\r", "\x00", ".", "_", ",", "-", "0", "8", "a", "s", "u", "_s", "_u", "i32.", "\xff", "\u00a0", "\u2028"}
	for _, x := range entries() {
		for _, sign := range signs {
			askBy(t, want, sign+x.name)
			askBy(t, want, x.name+sign)
			for at := 1; at < len(x.name); at++ {
				askBy(t, want, x.name[:at]+sign+x.name[at:])
			}
		}
		askBy(t, want, strings.ToUpper(x.name))
		askBy(t, want, x.name+x.name)
		askBy(t, want, strings.ReplaceAll(x.name, ".", "_"))
		askBy(t, want, strings.ReplaceAll(x.name, ".", " "))
		askBy(t, want, strings.ReplaceAll(x.name, "_", "."))
		for from := range x.name {
			r := []rune(x.name)
			r[from] = unicode.ToUpper(r[from])
			askBy(t, want, string(r))
			askBy(t, want, x.name[:from]+x.name[from+1:])
			for to := from; to <= len(x.name); to++ {
				askBy(t, want, x.name[from:to])
			}
		}
	}
	for _, text := range []string{"", " ", "  ", ".", "_", "\x00", "i32", "i64", "f32", "f64", "i32.", ".add", "load", "store", "local", "global", "memory", "get", "i32.load32_s", "i32.load32_u", "i32.store32", "f32.load8_s", "f64.store32", "i32.load8", "i32.extend8_s", "i64.extend32_s", "f32.eqz", "f64.rem", "i32.neg", "memory.copy", "memory.fill", "memory.init", "table.get", "table.set", "ref.null", "select_t", "get_local", "set_local", "tee_local", "current_memory", "grow_memory", "i32.wrap/i64", "i32.trunc_s/f32", "0", "00", "0x6a", "6a", strings.Repeat("nop", 1000), strings.Repeat("a", 1<<20)} {
		if _, is := want[text]; is {
			t.Fatal("a name:", text)
		}
		askBy(t, want, text)
	}
}

// TestPieces: names one behind the other, with anything between them that texts of names may have there, are none, nor is any piece of them but a name.
func TestPieces(t *testing.T) {
	want := byName()
	l := entries()
	for i := range l {
		for _, between := range []string{"", " ", "  ", ", ", ",", "\n", ".", ";"} {
			for _, j := range []int{i, (i + 1) % len(l), (i + len(l) - 1) % len(l)} {
				both := l[i].name + between + l[j].name
				askBy(t, want, both)
				askBy(t, want, both+between)
				askBy(t, want, between+both)
			}
		}
	}
	var all []string
	for _, x := range l {
		all = append(all, x.name)
	}
	askBy(t, want, strings.Join(all, " "))
	for _, g := range listed {
		askBy(t, want, g.names)
	}
}

// TestAccess: of each load and store what it does; of all other numbers nothing and false.
func TestAccess(t *testing.T) {
	for _, op := range numbers() {
		want, is := accesses[op]
		if got, ok := Access(op); got != want || ok != is {
			t.Fatalf("Access(%x): %+v %v, not %+v %v", op, got, ok, want, is)
		}
	}
}

// TestAccessByName: what is written out of loads and stores above is what the chapter's rule makes of the list's names.
func TestAccessByName(t *testing.T) {
	types := map[string]api.Access{"i32": {Type: api.I32, Bytes: 4}, "i64": {Type: api.I64, Bytes: 8}, "f32": {Type: api.F32, Bytes: 4}, "f64": {Type: api.F64, Bytes: 8}}
	bits := map[string]int{"8": 1, "16": 2, "32": 4}
	for _, x := range entries() {
		first, rest, _ := strings.Cut(x.name, ".")
		load, isLoad := strings.CutPrefix(rest, "load")
		store, isStore := strings.CutPrefix(rest, "store")
		if !isLoad && !isStore {
			continue
		}
		want := types[first]
		want.Store = isStore
		if isLoad {
			want.Signed = strings.HasSuffix(load, "_s")
			load = strings.TrimSuffix(strings.TrimSuffix(load, "_s"), "_u")
		} else {
			load = store
		}
		if load != "" {
			want.Bytes = bits[load]
		}
		if got, ok := Access(x.op); got != want || !ok {
			t.Errorf("Access(%x) %s: %+v %v, not %+v", x.op, x.name, got, ok, want)
		}
	}
}

// TestAccessOfOthers: what has to do with memory or types, and is no load or store.
func TestAccessOfOthers(t *testing.T) {
	for _, name := range []string{"memory.size", "memory.grow", "global.get", "global.set", "local.get", "global.set", "i32.const", "i64.const", "f32.const", "f64.const", "i32.eqz", "i32.add", "i64.extend_i32_s", "i64.trunc_sat_f64_s", "i32.reinterpret_f32", "unreachable"} {
		op, ok := By(name)
		if !ok {
			t.Fatal(name)
		}
		if got, ok := Access(op); got != (api.Access{}) || ok {
			t.Errorf("Access(%x) %s: %+v %v", op, name, got, ok)
		}
	}
}

// TestExamples: the chapter's own.
func TestExamples(t *testing.T) {
	if name := Name(0x6a); name != "i32.add" {
		t.Error(name)
	}
	if a, ok := Access(0x30); a != (api.Access{Type: api.I64, Bytes: 1, Signed: true}) || !ok {
		t.Error(a, ok)
	}
}

// TestAgain: calls answer the same each time, whatever was asked ahead of them, and from many sides at once.
func TestAgain(t *testing.T) {
	done := make(chan bool)
	for range 8 {
		go func() {
			same := true
			for _, x := range entries() {
				op, ok := By(x.name)
				_, none := By(x.name + " ")
				imm, has := Imm(x.op)
				same = same && ok && !none && has && op == x.op && imm == x.imm && Name(x.op) == x.name
			}
			done <- same
		}()
	}
	for range 8 {
		if !<-done {
			t.Error("another answer")
		}
	}
}
