package emit_test

import (
	"fmt"
	"reflect"
	"slices"
	"strings"
	"testing"

	"trunnion/api"
	"trunnion/code"
	"trunnion/emit"
	"trunnion/module"
	"trunnion/scan"
)

// add is a module of a function that adds two numbers.
const add = "\x00asm\x01\x00\x00\x00\x01\x07\x01\x60\x02\x7f\x7f\x01\x7f\x03\x02\x01\x00\x07\x07\x01\x03add\x00\x00\x0a\x09\x01\x07\x00\x20\x00\x20\x01\x6a\x0b"

func addModule() api.Module {
	return api.Module{
		Types:   []api.FuncType{{Params: []byte{api.I32, api.I32}, Results: []byte{api.I32}}},
		Funcs:   []api.Func{{Body: []api.Instr{{Op: 0x20}, {Op: 0x20, A: 1}, {Op: 0x6a}}}},
		Exports: []api.Export{{Name: "add"}},
	}
}

func TestExamples(t *testing.T) {
	expect(t, api.Module{}, "\x00\x61\x73\x6d\x01\x00\x00\x00", api.OK)
	expectExpr(t, []api.Instr{{Op: 0x41, Bits: 7}}, "\x41\x07\x0b")
	expect(t, addModule(), add, api.OK)
}

// Modules of one thing and of more

// said: a section's number, the bytes of one of its things, and the module of it alone.
type said struct {
	number int
	bytes  string
	m      api.Module
}

// i7: an instruction, as a list.
func i7() []api.Instr { return []api.Instr{{Op: 0x41, Bits: 7}} }

// things: of every section with a list but 3 and 0a.
func things() []said {
	types := func(s string, x api.FuncType) said { return said{1, s, api.Module{Types: []api.FuncType{x}}} }
	imports := func(s string, x api.Import) said { return said{2, s, api.Module{Imports: []api.Import{x}}} }
	tables := func(s string, x api.Limits) said { return said{4, s, api.Module{Tables: []api.Limits{x}}} }
	memories := func(s string, x api.Limits) said { return said{5, s, api.Module{Memories: []api.Limits{x}}} }
	globals := func(s string, x api.Cell) said { return said{6, s, api.Module{Globals: []api.Cell{x}}} }
	exports := func(s string, x api.Export) said { return said{7, s, api.Module{Exports: []api.Export{x}}} }
	elems := func(s string, x api.Elem) said { return said{9, s, api.Module{Elems: []api.Elem{x}}} }
	datas := func(s string, x api.Data) said { return said{11, s, api.Module{Datas: []api.Data{x}}} }
	return []said{
		types("\x60\x00\x00", api.FuncType{}),
		types("\x60\x01\x7f\x00", api.FuncType{Params: []byte{api.I32}}),
		types("\x60\x00\x01\x7e", api.FuncType{Results: []byte{api.I64}}),
		types("\x60\x02\x7d\x7c\x01\x7f", api.FuncType{Params: []byte{api.F32, api.F64}, Results: []byte{api.I32}}),
		types("\x60\x01\x7f\x02\x7e\x7e", api.FuncType{Params: []byte{api.I32}, Results: []byte{api.I64, api.I64}}),

		imports("\x00\x00\x00\x00", api.Import{}),
		imports("\x01m\x04name\x00\x05", api.Import{Module: "m", Name: "name", Kind: api.Function, Type: 5}),
		imports("\x03env\x00\x00\xff\xff\xff\xff\x0f", api.Import{Module: "env", Type: 4294967295}),
		imports("\x00\x01n\x00\x80\x80\x80\x80\x08", api.Import{Name: "n", Type: 2147483648}),
		imports("\x01m\x01t\x01\x70\x00\x03", api.Import{Module: "m", Name: "t", Kind: api.Table, Limits: api.Limits{Min: 3}}),
		imports("\x01m\x01t\x01\x70\x01\x03\x04", api.Import{Module: "m", Name: "t", Kind: api.Table, Limits: api.Limits{Min: 3, Max: 4, Has: true}}),
		imports("\x01m\x01y\x02\x00\x07", api.Import{Module: "m", Name: "y", Kind: api.Memory, Limits: api.Limits{Min: 7}}),
		imports("\x01m\x01y\x02\x01\x07\x00", api.Import{Module: "m", Name: "y", Kind: api.Memory, Limits: api.Limits{Min: 7, Has: true}}),
		imports("\x01m\x01g\x03\x7f\x00", api.Import{Module: "m", Name: "g", Kind: api.Global, Global: api.GlobalType{Type: api.I32}}),
		imports("\x02\xc3\xa9\x03\xe2\x82\xac\x03\x7c\x01", api.Import{Module: "\u00e9", Name: "\u20ac", Kind: api.Global, Global: api.GlobalType{Type: api.F64, Mut: true}}),

		tables("\x70\x00\x00", api.Limits{}),
		tables("\x70\x00\x05", api.Limits{Min: 5}),
		tables("\x70\x01\x05\xff\xff\xff\xff\x0f", api.Limits{Min: 5, Max: 4294967295, Has: true}),
		tables("\x70\x01\x09\x02", api.Limits{Min: 9, Max: 2, Has: true}),
		tables("\x70\x01\x00\x00", api.Limits{Has: true}),

		memories("\x00\x00", api.Limits{}),
		memories("\x00\x80\x80\x04", api.Limits{Min: 65536}),
		memories("\x01\x01\x02", api.Limits{Min: 1, Max: 2, Has: true}),
		memories("\x01\x80\x80\x04\x01", api.Limits{Min: 65536, Max: 1, Has: true}),
		memories("\x01\x00\x00", api.Limits{Has: true}),

		globals("\x7f\x00\x0b", api.Cell{Type: api.GlobalType{Type: api.I32}}),
		globals("\x7e\x01\x0b", api.Cell{Type: api.GlobalType{Type: api.I64, Mut: true}}),
		globals("\x7f\x01\x41\x07\x0b", api.Cell{Type: api.GlobalType{Type: api.I32, Mut: true}, Init: i7()}),
		globals("\x7d\x00\x43\x0b\x0b\x0b\x0b\x0b", api.Cell{Type: api.GlobalType{Type: api.F32}, Init: []api.Instr{{Op: 0x43, Bits: 0x0b0b0b0b}}}),
		globals("\x7c\x00\x23\x05\x01\x0b", api.Cell{Type: api.GlobalType{Type: api.F64}, Init: []api.Instr{{Op: 0x23, A: 5}, {Op: 0x01}}}),

		exports("\x00\x00\x00", api.Export{}),
		exports("\x01f\x00\x05", api.Export{Name: "f", Index: 5}),
		exports("\x01t\x01\x80\x01", api.Export{Name: "t", Kind: api.Table, Index: 128}),
		exports("\x01m\x02\x00", api.Export{Name: "m", Kind: api.Memory}),
		exports("\x05\xe2\x82\xac\x00\x01\x03\xff\xff\xff\xff\x0f", api.Export{Name: "\u20ac\x00\x01", Kind: api.Global, Index: 4294967295}),

		elems("\x00\x0b\x00", api.Elem{}),
		elems("\x03\x41\x07\x0b\x00", api.Elem{Table: 3, Offset: i7()}),
		elems("\x00\x0b\x03\x01\x80\x01\x02", api.Elem{Funcs: []uint32{1, 128, 2}}),
		elems("\xff\xff\xff\xff\x0f\x41\x07\x1a\x0b\x01\xff\xff\xff\xff\x0f", api.Elem{Table: 4294967295, Offset: append(i7(), api.Instr{Op: 0x1a}), Funcs: []uint32{4294967295}}),

		datas("\x00\x0b\x00", api.Data{}),
		datas("\x03\x41\x07\x0b\x00", api.Data{Memory: 3, Offset: i7()}),
		datas("\x00\x0b\x03abc", api.Data{Bytes: []byte("abc")}),
		datas("\x80\x02\x41\x07\x0b\x02\x0b\xff", api.Data{Memory: 256, Offset: i7(), Bytes: []byte{0x0b, 0xff}}),
	}
}

// saidFunc: a function, and its bytes in the sections 3 and 0a.
type saidFunc struct {
	of, body string
	f        api.Func
}

func functions() []saidFunc {
	return []saidFunc{
		{"\x00", "\x02\x00\x0b", api.Func{}},
		{"\x03", "\x04\x01\x01\x7f\x0b", api.Func{Type: 3, Locals: []byte{api.I32}}},
		{"\x80\x01", "\x06\x02\x02\x7f\x01\x7c\x0b", api.Func{Type: 128, Locals: []byte{api.I32, api.I32, api.F64}}},
		{"\xff\xff\xff\xff\x0f", "\x03\x00\x01\x0b", api.Func{Type: 4294967295, Body: []api.Instr{{Op: 0x01}}}},
		{"\x01", "\x06\x00\x02\x40\x00\x0b\x0b", api.Func{Type: 1, Body: []api.Instr{{Op: 0x02, Then: []api.Instr{{Op: 0x00}}}}}},
		{"\x02", "\x08\x01\x02\x7d\x20\x00\x20\x01\x0b", api.Func{Type: 2, Locals: []byte{api.F32, api.F32}, Body: []api.Instr{{Op: 0x20}, {Op: 0x20, A: 1}}}},
	}
}

// both: what two modules say, one behind the other.
func both(a, b api.Module) api.Module {
	return api.Module{
		Types:    slices.Concat(a.Types, b.Types),
		Imports:  slices.Concat(a.Imports, b.Imports),
		Funcs:    slices.Concat(a.Funcs, b.Funcs),
		Tables:   slices.Concat(a.Tables, b.Tables),
		Memories: slices.Concat(a.Memories, b.Memories),
		Globals:  slices.Concat(a.Globals, b.Globals),
		Exports:  slices.Concat(a.Exports, b.Exports),
		Starts:   a.Starts || b.Starts,
		Start:    a.Start + b.Start,
		Elems:    slices.Concat(a.Elems, b.Elems),
		Datas:    slices.Concat(a.Datas, b.Datas),
	}
}

// TestNothing: a module of nothing, whether its lists are there or not.
func TestNothing(t *testing.T) {
	expect(t, api.Module{}, head, api.OK)
	empty := api.Module{
		Types: []api.FuncType{}, Imports: []api.Import{}, Funcs: []api.Func{}, Tables: []api.Limits{}, Memories: []api.Limits{},
		Globals: []api.Cell{}, Exports: []api.Export{}, Elems: []api.Elem{}, Datas: []api.Data{},
	}
	expect(t, empty, head, api.OK)
	if !emit.Same(empty, api.Module{}) || !emit.Same(api.Module{}, empty) {
		t.Error("not the same")
	}
}

// TestOne: each section alone, of one thing.
func TestOne(t *testing.T) {
	for _, x := range things() {
		expect(t, x.m, head+sec(x.number, "\x01"+x.bytes), api.OK)
	}
	for _, x := range functions() {
		expect(t, api.Module{Funcs: []api.Func{x.f}}, head+sec(3, "\x01"+x.of)+sec(10, "\x01"+x.body), api.OK)
	}
}

// TestStart: with it and nothing else, and set without it.
func TestStart(t *testing.T) {
	expect(t, api.Module{Starts: true}, head+"\x08\x01\x00", api.OK)
	expect(t, api.Module{Starts: true, Start: 127}, head+"\x08\x01\x7f", api.OK)
	expect(t, api.Module{Starts: true, Start: 128}, head+"\x08\x02\x80\x01", api.OK)
	expect(t, api.Module{Starts: true, Start: 4294967295}, head+"\x08\x05\xff\xff\xff\xff\x0f", api.OK)
	for _, start := range []uint32{1, 127, 128, 2147483648, 4294967295} {
		expect(t, api.Module{Start: start}, "", api.ErrArg)
		m := addModule()
		m.Start = start
		expect(t, m, "", api.ErrArg)
	}
}

// TestMore: each section alone, of all things of its kind, forward and backward, once and twice.
func TestMore(t *testing.T) {
	for number := 1; number <= 11; number++ {
		list := slices.DeleteFunc(things(), func(x said) bool { return x.number != number })
		if len(list) == 0 {
			continue
		}
		for range 2 {
			for _, some := range [][]said{list, append(list, list...)} {
				var m api.Module
				var bytes []string
				for _, x := range some {
					m, bytes = both(m, x.m), append(bytes, x.bytes)
				}
				expect(t, m, head+sec(number, vec(bytes...)), api.OK)
			}
			slices.Reverse(list)
		}
	}
	list := functions()
	for range 2 {
		for _, some := range [][]saidFunc{list, append(list, list...)} {
			var m api.Module
			var types, bodies []string
			for _, x := range some {
				m.Funcs, types, bodies = append(m.Funcs, x.f), append(types, x.of), append(bodies, x.body)
			}
			expect(t, m, head+sec(3, vec(types...))+sec(10, vec(bodies...)), api.OK)
		}
		slices.Reverse(list)
	}
}

// parts: of each section's number its bytes, and the module of it alone; of 3 those of both sections of functions stand at 3 and 0a.
func parts() (sections [12]string, modules [12]api.Module) {
	for number := 1; number <= 11; number++ {
		var bytes []string
		for _, x := range things() {
			if x.number == number {
				modules[number], bytes = both(modules[number], x.m), append(bytes, x.bytes)
			}
		}
		sections[number] = sec(number, vec(bytes...))
	}
	var types, bodies []string
	for _, x := range functions() {
		modules[3].Funcs = append(modules[3].Funcs, x.f)
		types, bodies = append(types, x.of), append(bodies, x.body)
	}
	sections[3], sections[10] = sec(3, vec(types...)), sec(10, vec(bodies...))
	sections[8], modules[8] = "\x08\x01\x09", api.Module{Starts: true, Start: 9}
	return sections, modules
}

// allModule: a module with everything.
func allModule() (m api.Module) {
	_, modules := parts()
	for _, x := range modules {
		m = both(m, x)
	}
	return plain(m)
}

// TestAll: all sections one behind the other, and any of them left out.
func TestAll(t *testing.T) {
	sections, modules := parts()
	for chosen := range 1 << 10 {
		var m api.Module
		s := head
		bit := 0
		for number := 1; number <= 11; number++ {
			has := chosen>>bit&1 == 1
			if number == 10 {
				has = len(m.Funcs) > 0
			} else {
				bit++
			}
			if has {
				m, s = both(m, modules[number]), s+sections[number]
			}
		}
		if b, e := emit.Encode(m); string(b) != s || e != api.OK {
			t.Fatalf("% x %d, not % x", b, e, s)
		}
		if chosen%31 == 0 || chosen == 1<<10-1 {
			expect(t, m, s, api.OK)
		}
	}
}

// Numbers

// u32s: numbers on both sides of each bound at which they take a byte more, with their bytes.
func u32s() []struct {
	n uint32
	s string
} {
	return []struct {
		n uint32
		s string
	}{
		{0, "\x00"},
		{1, "\x01"},
		{63, "\x3f"},
		{64, "\x40"},
		{127, "\x7f"},
		{128, "\x80\x01"},
		{255, "\xff\x01"},
		{8192, "\x80\x40"},
		{16383, "\xff\x7f"},
		{16384, "\x80\x80\x01"},
		{2097151, "\xff\xff\x7f"},
		{2097152, "\x80\x80\x80\x01"},
		{268435455, "\xff\xff\xff\x7f"},
		{268435456, "\x80\x80\x80\x80\x01"},
		{2147483647, "\xff\xff\xff\xff\x07"},
		{2147483648, "\x80\x80\x80\x80\x08"},
		{4294967295, "\xff\xff\xff\xff\x0f"},
	}
}

// TestU32: each of them in each place where one stands, outside of expressions.
func TestU32(t *testing.T) {
	for _, x := range u32s() {
		n, s := x.n, x.s
		for _, y := range []said{
			{2, "\x01m\x01f\x00" + s, api.Module{Imports: []api.Import{{Module: "m", Name: "f", Type: n}}}},
			{2, "\x01m\x01t\x01\x70\x00" + s, api.Module{Imports: []api.Import{{Module: "m", Name: "t", Kind: api.Table, Limits: api.Limits{Min: n}}}}},
			{2, "\x01m\x01t\x01\x70\x01" + s + "\x05", api.Module{Imports: []api.Import{{Module: "m", Name: "t", Kind: api.Table, Limits: api.Limits{Min: n, Max: 5, Has: true}}}}},
			{2, "\x01m\x01t\x01\x70\x01\x05" + s, api.Module{Imports: []api.Import{{Module: "m", Name: "t", Kind: api.Table, Limits: api.Limits{Min: 5, Max: n, Has: true}}}}},
			{2, "\x01m\x01y\x02\x00" + s, api.Module{Imports: []api.Import{{Module: "m", Name: "y", Kind: api.Memory, Limits: api.Limits{Min: n}}}}},
			{2, "\x01m\x01y\x02\x01" + s + "\x05", api.Module{Imports: []api.Import{{Module: "m", Name: "y", Kind: api.Memory, Limits: api.Limits{Min: n, Max: 5, Has: true}}}}},
			{2, "\x01m\x01y\x02\x01\x05" + s, api.Module{Imports: []api.Import{{Module: "m", Name: "y", Kind: api.Memory, Limits: api.Limits{Min: 5, Max: n, Has: true}}}}},
			{4, "\x70\x00" + s, api.Module{Tables: []api.Limits{{Min: n}}}},
			{4, "\x70\x01" + s + "\x05", api.Module{Tables: []api.Limits{{Min: n, Max: 5, Has: true}}}},
			{4, "\x70\x01\x05" + s, api.Module{Tables: []api.Limits{{Min: 5, Max: n, Has: true}}}},
			{5, "\x00" + s, api.Module{Memories: []api.Limits{{Min: n}}}},
			{5, "\x01" + s + "\x05", api.Module{Memories: []api.Limits{{Min: n, Max: 5, Has: true}}}},
			{5, "\x01\x05" + s, api.Module{Memories: []api.Limits{{Min: 5, Max: n, Has: true}}}},
			{7, "\x01x\x00" + s, api.Module{Exports: []api.Export{{Name: "x", Index: n}}}},
			{7, "\x01x\x03" + s, api.Module{Exports: []api.Export{{Name: "x", Kind: api.Global, Index: n}}}},
			{9, s + "\x0b\x00", api.Module{Elems: []api.Elem{{Table: n}}}},
			{9, "\x00\x0b\x01" + s, api.Module{Elems: []api.Elem{{Funcs: []uint32{n}}}}},
			{9, "\x00\x0b\x03\x07" + s + "\x08", api.Module{Elems: []api.Elem{{Funcs: []uint32{7, n, 8}}}}},
			{11, s + "\x0b\x00", api.Module{Datas: []api.Data{{Memory: n}}}},
		} {
			expect(t, y.m, head+sec(y.number, "\x01"+y.bytes), api.OK)
		}
		expect(t, api.Module{Funcs: []api.Func{{Type: n}}}, head+sec(3, "\x01"+s)+"\x0a\x04\x01\x02\x00\x0b", api.OK)
		expect(t, api.Module{Starts: true, Start: n}, head+sec(8, s), api.OK)
	}
}

// TestU32InInstrs: each of them in each place of an instruction.
func TestU32InInstrs(t *testing.T) {
	for _, x := range u32s() {
		for _, op := range ops() {
			s := instrOf(api.Instr{Op: op})[:1]
			switch immOf(op) {
			case "label", "index":
				expectPlaces(t, []api.Instr{{Op: op, A: x.n}}, s+x.s+"\x0b")
			case "indirect":
				expectPlaces(t, []api.Instr{{Op: op, A: x.n}}, s+x.s+"\x00\x0b")
			case "memory":
				expectPlaces(t, []api.Instr{{Op: op, A: x.n, B: 5}}, s+x.s+"\x05\x0b")
				expectPlaces(t, []api.Instr{{Op: op, A: 5, B: x.n}}, s+"\x05"+x.s+"\x0b")
			case "labels":
				expectPlaces(t, []api.Instr{{Op: op, A: x.n}}, s+"\x00"+x.s+"\x0b")
				expectPlaces(t, []api.Instr{{Op: op, List: []uint32{x.n}, A: 5}}, s+"\x01"+x.s+"\x05\x0b")
				expectPlaces(t, []api.Instr{{Op: op, List: []uint32{7, x.n, 8}, A: x.n}}, s+"\x03\x07"+x.s+"\x08"+x.s+"\x0b")
			}
		}
	}
}

// place: where an expression stands, and what stands around it.
type place struct {
	name  string
	put   func(list []api.Instr) api.Module
	bytes func(expr string) string
}

func places() []place {
	return []place{
		{
			"a function",
			func(list []api.Instr) api.Module { return api.Module{Funcs: []api.Func{{Body: list}}} },
			func(expr string) string { return head + "\x03\x02\x01\x00" + sec(10, vec(sized("\x00"+expr))) },
		},
		{
			"a function between others, with locals",
			func(list []api.Instr) api.Module {
				return api.Module{Funcs: []api.Func{{}, {Type: 5, Locals: []byte{api.F32}, Body: list}, {Body: i7()}}}
			},
			func(expr string) string {
				return head + "\x03\x04\x03\x00\x05\x00" + sec(10, vec("\x02\x00\x0b", sized("\x01\x01\x7d"+expr), "\x04\x00\x41\x07\x0b"))
			},
		},
		{
			"a global",
			func(list []api.Instr) api.Module {
				return api.Module{Globals: []api.Cell{{Type: api.GlobalType{Type: api.F64, Mut: true}, Init: list}}}
			},
			func(expr string) string { return head + sec(6, "\x01\x7c\x01"+expr) },
		},
		{
			"a global behind another",
			func(list []api.Instr) api.Module {
				return api.Module{Globals: []api.Cell{{Type: api.GlobalType{Type: api.I32}, Init: i7()}, {Type: api.GlobalType{Type: api.I64}, Init: list}}}
			},
			func(expr string) string { return head + sec(6, "\x02\x7f\x00\x41\x07\x0b\x7e\x00"+expr) },
		},
		{
			"an elem",
			func(list []api.Instr) api.Module {
				return api.Module{Elems: []api.Elem{{Table: 3, Offset: list, Funcs: []uint32{1, 2}}}}
			},
			func(expr string) string { return head + sec(9, "\x01\x03"+expr+"\x02\x01\x02") },
		},
		{
			"an elem behind another",
			func(list []api.Instr) api.Module { return api.Module{Elems: []api.Elem{{}, {Offset: list}}} },
			func(expr string) string { return head + sec(9, "\x02\x00\x0b\x00\x00"+expr+"\x00") },
		},
		{
			"a data",
			func(list []api.Instr) api.Module {
				return api.Module{Datas: []api.Data{{Memory: 3, Offset: list, Bytes: []byte("ab")}}}
			},
			func(expr string) string { return head + sec(11, "\x01\x03"+expr+"\x02ab") },
		},
		{
			"a data behind another",
			func(list []api.Instr) api.Module { return api.Module{Datas: []api.Data{{}, {Offset: list}}} },
			func(expr string) string { return head + sec(11, "\x02\x00\x0b\x00\x00"+expr+"\x00") },
		},
	}
}

// expectPlaces: these instructions are these bytes, as an expression and in each place of a module.
func expectPlaces(t *testing.T, list []api.Instr, want string) {
	t.Helper()
	expectExpr(t, list, want)
	for _, p := range places() {
		expect(t, p.put(list), p.bytes(want), api.OK)
	}
}

// refusePlaces: these instructions are no expression, and a module with them is refused with e.
func refusePlaces(t *testing.T, list []api.Instr, e api.Errno) {
	t.Helper()
	expectExpr(t, list, "")
	for _, p := range places() {
		expect(t, p.put(list), "", e)
	}
}

// TestS32: constants on both sides of each bound, below nought and above.
func TestS32(t *testing.T) {
	for _, x := range []struct {
		n int32
		s string
	}{
		{0, "\x00"},
		{1, "\x01"},
		{-1, "\x7f"},
		{63, "\x3f"},
		{64, "\xc0\x00"},
		{-64, "\x40"},
		{-65, "\xbf\x7f"},
		{127, "\xff\x00"},
		{128, "\x80\x01"},
		{-128, "\x80\x7f"},
		{-129, "\xff\x7e"},
		{8191, "\xff\x3f"},
		{8192, "\x80\xc0\x00"},
		{-8192, "\x80\x40"},
		{-8193, "\xff\xbf\x7f"},
		{1048575, "\xff\xff\x3f"},
		{1048576, "\x80\x80\xc0\x00"},
		{-1048576, "\x80\x80\x40"},
		{-1048577, "\xff\xff\xbf\x7f"},
		{134217727, "\xff\xff\xff\x3f"},
		{134217728, "\x80\x80\x80\xc0\x00"},
		{-134217728, "\x80\x80\x80\x40"},
		{-134217729, "\xff\xff\xff\xbf\x7f"},
		{2147483647, "\xff\xff\xff\xff\x07"},
		{-2147483648, "\x80\x80\x80\x80\x78"},
	} {
		expectPlaces(t, []api.Instr{{Op: 0x41, Bits: uint64(uint32(x.n))}}, "\x41"+x.s+"\x0b")
	}
}

// TestBitsOf32: of a constant of 32 bits none above them may be set.
func TestBitsOf32(t *testing.T) {
	for _, op := range []int{0x41, 0x43} {
		for _, bits := range []uint64{1 << 32, 1<<32 + 7, 1 << 40, 1 << 63, 1<<64 - 1, 1<<64 - 1<<31, 1<<64 - 1<<32, 0x7fffffff00000000, 0xffffffff80000000} {
			refusePlaces(t, []api.Instr{{Op: op, Bits: bits}}, api.ErrArg)
			refusePlaces(t, []api.Instr{{Op: 0x02, Then: []api.Instr{{Op: op, Bits: bits}}}}, api.ErrArg)
		}
		for i := range 64 {
			list := []api.Instr{{Op: op, Bits: 1 << i}}
			if got := expectExprModel(t, list); got != (i < 32) {
				t.Error(op, i, got)
			}
		}
	}
}

// TestS64: the same of 64 bits.
func TestS64(t *testing.T) {
	for bytes := 1; bytes <= 9; bytes++ {
		bound := int64(1) << (7*bytes - 1)
		for _, x := range []struct {
			n    int64
			size int
		}{
			{bound - 1, bytes},
			{bound, bytes + 1},
			{-bound, bytes},
			{-bound - 1, bytes + 1},
		} {
			s := signed(x.n, 1)
			if len(s) != x.size {
				t.Fatal(x, len(s))
			}
			expectPlaces(t, []api.Instr{{Op: 0x42, Bits: uint64(x.n)}}, "\x42"+s+"\x0b")
		}
	}
	for _, x := range []struct {
		n uint64
		s string
	}{
		{0, "\x00"},
		{63, "\x3f"},
		{64, "\xc0\x00"},
		{1<<64 - 1, "\x7f"},
		{1<<64 - 64, "\x40"},
		{1<<64 - 65, "\xbf\x7f"},
		{1<<31 - 1, "\xff\xff\xff\xff\x07"},
		{1 << 31, "\x80\x80\x80\x80\x08"},
		{1<<32 - 1, "\xff\xff\xff\xff\x0f"},
		{1 << 32, "\x80\x80\x80\x80\x10"},
		{1<<64 - 1<<31, "\x80\x80\x80\x80\x78"},
		{1<<63 - 1, "\xff\xff\xff\xff\xff\xff\xff\xff\xff\x00"},
		{1 << 63, "\x80\x80\x80\x80\x80\x80\x80\x80\x80\x7f"},
	} {
		expectPlaces(t, []api.Instr{{Op: 0x42, Bits: x.n}}, "\x42"+x.s+"\x0b")
	}
}

// TestFloats: the lowest byte first, whatever the bits are.
func TestFloats(t *testing.T) {
	expectPlaces(t, []api.Instr{{Op: 0x43, Bits: 0x04030201}}, "\x43\x01\x02\x03\x04\x0b")
	expectPlaces(t, []api.Instr{{Op: 0x43}}, "\x43\x00\x00\x00\x00\x0b")
	expectPlaces(t, []api.Instr{{Op: 0x43, Bits: 1<<32 - 1}}, "\x43\xff\xff\xff\xff\x0b")
	expectPlaces(t, []api.Instr{{Op: 0x43, Bits: 0x7fa00001}}, "\x43\x01\x00\xa0\x7f\x0b")
	expectPlaces(t, []api.Instr{{Op: 0x44, Bits: 0x0807060504030201}}, "\x44\x01\x02\x03\x04\x05\x06\x07\x08\x0b")
	expectPlaces(t, []api.Instr{{Op: 0x44}}, "\x44\x00\x00\x00\x00\x00\x00\x00\x00\x0b")
	expectPlaces(t, []api.Instr{{Op: 0x44, Bits: 1<<64 - 1}}, "\x44\xff\xff\xff\xff\xff\xff\xff\xff\x0b")
	expectPlaces(t, []api.Instr{{Op: 0x44, Bits: 0x0b0b0b0b0b0b0b0b}}, "\x44\x0b\x0b\x0b\x0b\x0b\x0b\x0b\x0b\x0b")
}

// TestSizes: as many things, bytes of a name, of a section, of a body and of a data as take a byte more.
func TestSizes(t *testing.T) {
	for _, n := range []int{0, 1, 2, 100, 126, 127, 128, 129, 130, 255, 256, 4095, 4096} {
		text := strings.Repeat("n", n)
		types := times[byte](n, api.F32)
		for _, x := range []said{
			{1, "\x60" + leb(uint64(n)) + strings.Repeat("\x7d", n) + "\x00", api.Module{Types: []api.FuncType{{Params: types}}}},
			{1, "\x60\x00" + leb(uint64(n)) + strings.Repeat("\x7d", n), api.Module{Types: []api.FuncType{{Results: types}}}},
			{2, sized(text) + "\x00\x00\x00", api.Module{Imports: []api.Import{{Module: text}}}},
			{2, "\x00" + sized(text) + "\x00\x00", api.Module{Imports: []api.Import{{Name: text}}}},
			{6, "\x7f\x00" + strings.Repeat("\x01", n) + "\x0b", api.Module{Globals: []api.Cell{{Type: api.GlobalType{Type: api.I32}, Init: times(n, api.Instr{Op: 0x01})}}}},
			{7, sized(text) + "\x00\x00", api.Module{Exports: []api.Export{{Name: text}}}},
			{9, "\x00" + strings.Repeat("\x01", n) + "\x0b\x00", api.Module{Elems: []api.Elem{{Offset: times(n, api.Instr{Op: 0x01})}}}},
			{9, "\x00\x0b" + leb(uint64(n)) + strings.Repeat("\x05", n), api.Module{Elems: []api.Elem{{Funcs: times[uint32](n, 5)}}}},
			{11, "\x00\x0b" + sized(text), api.Module{Datas: []api.Data{{Bytes: []byte(text)}}}},
		} {
			expect(t, x.m, head+sec(x.number, "\x01"+x.bytes), api.OK)
		}
		body := strings.Repeat("\x01", n)
		expect(t, api.Module{Funcs: []api.Func{{Body: times(n, api.Instr{Op: 0x01})}}}, head+"\x03\x02\x01\x00"+sec(10, "\x01"+sized("\x00"+body+"\x0b")), api.OK)
		expectExpr(t, times(n, api.Instr{Op: 0x01}), body+"\x0b")
	}
	for _, n := range []int{16380, 16381, 16383, 16384} {
		text := strings.Repeat("d", n)
		expect(t, api.Module{Datas: []api.Data{{Bytes: []byte(text)}}}, head+sec(11, "\x01\x00\x0b"+sized(text)), api.OK)
		expect(t, api.Module{Exports: []api.Export{{Name: text}}}, head+sec(7, "\x01"+sized(text)+"\x00\x00"), api.OK)
		body := strings.Repeat("\x1a", n)
		expect(t, api.Module{Funcs: []api.Func{{Body: times(n, api.Instr{Op: 0x1a})}}}, head+"\x03\x02\x01\x00"+sec(10, "\x01"+sized("\x00"+body+"\x0b")), api.OK)
	}
}

// Locals

func TestLocals(t *testing.T) {
	const i, l, f, d = api.I32, api.I64, api.F32, api.F64
	for _, x := range []struct {
		list []byte
		s    string
	}{
		{nil, "\x00"},
		{[]byte{}, "\x00"},
		{[]byte{i}, "\x01\x01\x7f"},
		{[]byte{l}, "\x01\x01\x7e"},
		{[]byte{f}, "\x01\x01\x7d"},
		{[]byte{d}, "\x01\x01\x7c"},
		{[]byte{l, l, l}, "\x01\x03\x7e"},
		{[]byte{i, i, d}, "\x02\x02\x7f\x01\x7c"},
		{[]byte{d, i, i}, "\x02\x01\x7c\x02\x7f"},
		{[]byte{i, l, i, l}, "\x04\x01\x7f\x01\x7e\x01\x7f\x01\x7e"},
		{[]byte{f, i, f}, "\x03\x01\x7d\x01\x7f\x01\x7d"},
		{[]byte{f, f, i, f, f, f}, "\x03\x02\x7d\x01\x7f\x03\x7d"},
		{[]byte{i, l, f, d, d, f, l, i}, "\x07\x01\x7f\x01\x7e\x01\x7d\x02\x7c\x01\x7d\x01\x7e\x01\x7f"},
		{times[byte](127, i), "\x01\x7f\x7f"},
		{times[byte](128, i), "\x01\x80\x01\x7f"},
		{times[byte](1023, i), "\x01\xff\x07\x7f"},
		{times[byte](1024, i), "\x01\x80\x08\x7f"},
		{append(times[byte](1023, i), d), "\x02\xff\x07\x7f\x01\x7c"},
		{append([]byte{d}, times[byte](1023, i)...), "\x02\x01\x7c\xff\x07\x7f"},
		{slices.Repeat([]byte{i, d}, 63), "\x7e" + strings.Repeat("\x01\x7f\x01\x7c", 63)},
		{slices.Repeat([]byte{i, d}, 64), "\x80\x01" + strings.Repeat("\x01\x7f\x01\x7c", 64)},
		{slices.Repeat([]byte{i, d}, 512), "\x80\x08" + strings.Repeat("\x01\x7f\x01\x7c", 512)},
	} {
		expect(t, api.Module{Funcs: []api.Func{{Locals: x.list}}}, head+"\x03\x02\x01\x00"+sec(10, "\x01"+sized(x.s+"\x0b")), api.OK)
		m := api.Module{Funcs: []api.Func{{Locals: []byte{i}}, {Locals: x.list, Body: i7()}, {Locals: x.list}}}
		expect(t, m, head+"\x03\x04\x03\x00\x00\x00"+sec(10, vec("\x04\x01\x01\x7f\x0b", sized(x.s+"\x41\x07\x0b"), sized(x.s+"\x0b"))), api.OK)
	}
}

// TestTooManyLocals: one more than there may be, in one group and in several.
func TestTooManyLocals(t *testing.T) {
	if api.MaxLocals != 1024 {
		t.Fatal(api.MaxLocals)
	}
	for _, list := range [][]byte{
		times[byte](1025, api.I32),
		append(times[byte](1024, api.I32), api.F64),
		append([]byte{api.F64}, times[byte](1024, api.I32)...),
		append(slices.Repeat([]byte{api.I64, api.F32}, 512), api.F32),
		times[byte](4096, api.I32),
		times[byte](4097, api.I32),
		times[byte](100000, api.F32),
		slices.Repeat([]byte{api.I64, api.F32}, 10000),
	} {
		expect(t, api.Module{Funcs: []api.Func{{Locals: list}}}, "", api.ErrLimit)
		expect(t, api.Module{Funcs: []api.Func{{}, {Locals: list, Body: i7()}, {}}}, "", api.ErrLimit)
		// What ErrArg asks for of itself is told ahead of it; that it isn't read as it was, behind it.
		expect(t, api.Module{Funcs: []api.Func{{Locals: append(list, 0x40)}}}, "", api.ErrArg)
		expect(t, api.Module{Funcs: []api.Func{{Locals: append([]byte{0}, list...)}}}, "", api.ErrArg)
		expect(t, api.Module{Funcs: []api.Func{{Locals: list}}, Start: 1}, "", api.ErrLimit)
		expect(t, api.Module{Funcs: []api.Func{{Locals: list, Body: []api.Instr{{Op: 0x01, A: 1}}}}}, "", api.ErrLimit)
	}
}

// Expressions

// TestExprOfNothing: an expression without an instruction, there or not.
func TestExprOfNothing(t *testing.T) {
	expectPlaces(t, nil, "\x0b")
	expectPlaces(t, []api.Instr{}, "\x0b")
	for range 2 {
		if b, ok := emit.Expr(nil); string(b) != "\x0b" || !ok {
			t.Error(b, ok)
		}
	}
}

// filled: an instruction with each field set that is its opcode's own.
func filled(op int) api.Instr {
	return own(api.Instr{Op: op, Type: api.F32, A: 300, B: 5, Bits: 0xfffffff0, List: []uint32{1, 200, 3}, Then: []api.Instr{{Op: 0x01}, {Op: 0x41, Bits: 9}}, Else: []api.Instr{{Op: 0x0f}}, Has: true})
}

// TestEachOp: each opcode with its own fields set, and with all of them nought; alone and between others.
func TestEachOp(t *testing.T) {
	if len(ops()) != 170+8 {
		t.Fatal(len(ops()))
	}
	for _, op := range ops() {
		for _, in := range []api.Instr{{Op: op}, filled(op)} {
			s := instrOf(in)
			expectPlaces(t, []api.Instr{in}, s+"\x0b")
			expectExpr(t, []api.Instr{{Op: 0x01}, in, in, {Op: 0x6a}}, "\x01"+s+s+"\x6a\x0b")
			expectExpr(t, []api.Instr{{Op: 0x02, Then: []api.Instr{in}}}, "\x02\x40"+s+"\x0b\x0b")
			expectExpr(t, []api.Instr{{Op: 0x04, Has: true, Then: []api.Instr{in}, Else: []api.Instr{in, in}}}, "\x04\x40"+s+"\x05"+s+s+"\x0b\x0b")
		}
	}
}

// TestOpBytes: some of them written out.
func TestOpBytes(t *testing.T) {
	for _, x := range []struct {
		in api.Instr
		s  string
	}{
		{api.Instr{Op: 0x00}, "\x00"},
		{api.Instr{Op: 0x01}, "\x01"},
		{api.Instr{Op: 0x0f}, "\x0f"},
		{api.Instr{Op: 0x1a}, "\x1a"},
		{api.Instr{Op: 0x1b}, "\x1b"},
		{api.Instr{Op: 0x45}, "\x45"},
		{api.Instr{Op: 0xbf}, "\xbf"},
		{api.Instr{Op: 0xfc00}, "\xfc\x00"},
		{api.Instr{Op: 0xfc07}, "\xfc\x07"},
		{api.Instr{Op: 0x02}, "\x02\x40\x0b"},
		{api.Instr{Op: 0x03, Type: api.F64}, "\x03\x7c\x0b"},
		{api.Instr{Op: 0x04, Type: api.I32}, "\x04\x7f\x0b"},
		{api.Instr{Op: 0x04, Has: true}, "\x04\x40\x05\x0b"},
		{api.Instr{Op: 0x0c, A: 3}, "\x0c\x03"},
		{api.Instr{Op: 0x0d, A: 128}, "\x0d\x80\x01"},
		{api.Instr{Op: 0x0e}, "\x0e\x00\x00"},
		{api.Instr{Op: 0x0e, List: []uint32{1, 2}, A: 3}, "\x0e\x02\x01\x02\x03"},
		{api.Instr{Op: 0x10, A: 7}, "\x10\x07"},
		{api.Instr{Op: 0x11, A: 7}, "\x11\x07\x00"},
		{api.Instr{Op: 0x24, A: 7}, "\x24\x07"},
		{api.Instr{Op: 0x28, A: 2, B: 8}, "\x28\x02\x08"},
		{api.Instr{Op: 0x3e, A: 2, B: 256}, "\x3e\x02\x80\x02"},
		{api.Instr{Op: 0x3f}, "\x3f\x00"},
		{api.Instr{Op: 0x40}, "\x40\x00"},
		{api.Instr{Op: 0x41, Bits: 0xffffffff}, "\x41\x7f"},
		{api.Instr{Op: 0x42, Bits: 0xffffffff}, "\x42\xff\xff\xff\xff\x0f"},
		{api.Instr{Op: 0x43, Bits: 0x3f800000}, "\x43\x00\x00\x80\x3f"},
		{api.Instr{Op: 0x44, Bits: 0x3ff0000000000000}, "\x44\x00\x00\x00\x00\x00\x00\xf0\x3f"},
	} {
		expectPlaces(t, []api.Instr{x.in}, x.s+"\x0b")
	}
}

// foreign: instructions of an opcode, each with one field set that isn't its own; of if without an else what lies in that.
func foreign(op int) (list []api.Instr) {
	for _, set := range []func(in *api.Instr){
		func(in *api.Instr) { in.Type = api.I32 },
		func(in *api.Instr) { in.Type = api.F64 },
		func(in *api.Instr) { in.A = 1 },
		func(in *api.Instr) { in.A = 4294967295 },
		func(in *api.Instr) { in.B = 1 },
		func(in *api.Instr) { in.B = 4294967295 },
		func(in *api.Instr) { in.Bits = 1 },
		func(in *api.Instr) { in.Bits = 1 << 63 },
		func(in *api.Instr) { in.List = []uint32{0} },
		func(in *api.Instr) { in.List = []uint32{1, 2, 3} },
		func(in *api.Instr) { in.Then = []api.Instr{{}} },
		func(in *api.Instr) { in.Then = i7() },
		func(in *api.Instr) { in.Else = []api.Instr{{}} },
		func(in *api.Instr) { in.Else = i7() },
	} {
		for _, in := range []api.Instr{{Op: op}, filled(op)} {
			if op == 0x04 {
				in.Has, in.Else = false, nil
			}
			set(&in)
			if !same(in, own(in)) {
				list = append(list, in)
			}
		}
	}
	return list
}

// TestForeign: each opcode with each field set that isn't its own: alone, between others, and in blocks.
func TestForeign(t *testing.T) {
	for _, op := range ops() {
		list := foreign(op)
		if len(list) < 8 {
			t.Fatal(op, len(list))
		}
		for _, in := range list {
			expectExpr(t, []api.Instr{in}, "")
			for _, p := range places() {
				refuse(t, p.put([]api.Instr{in}), api.ErrArg)
			}
			for _, around := range [][]api.Instr{
				{{Op: 0x01}, in, {Op: 0x01}},
				{{Op: 0x03, Then: []api.Instr{in}}},
				{{Op: 0x04, Then: []api.Instr{in}}},
				{{Op: 0x04, Has: true, Else: []api.Instr{{Op: 0x01}, in}}},
			} {
				if b, ok := emit.Expr(around); len(b) != 0 || ok {
					t.Fatalf("%v: % x", around, b)
				}
				refuse(t, places()[0].put(around), api.ErrArg)
			}
		}
	}
}

// TestHas: an else of another opcode than if's, with something in it and without.
func TestHas(t *testing.T) {
	for _, op := range ops() {
		for _, list := range [][]api.Instr{nil, {}, {{Op: 0x01}}} {
			for _, in := range []api.Instr{{Op: op, Has: true, Else: list}, {Op: op, Has: true, Then: list}} {
				if op == 0x04 {
					expectPlaces(t, []api.Instr{in}, instrOf(in)+"\x0b")
				} else {
					refusePlaces(t, []api.Instr{in}, api.ErrArg)
					refusePlaces(t, []api.Instr{{Op: 0x02, Then: []api.Instr{in}}}, api.ErrArg)
				}
			}
		}
	}
}

// noOps: opcodes that are none, or may not stand in an expression.
func noOps() []int {
	list := []int{-1, -0x10, -256, 1 << 20, 0x10000, 0x1fc00, 0xfc0041, 1 << 32, 1<<32 + 1, 1<<32 + 0xfc00, -1 << 63, 1<<63 - 1, 0x141, 0x101, 0x10041}
	for op := range 0x200 {
		if immOf(op) == "" {
			list = append(list, op)
		}
	}
	for op := 0xfb00; op < 0xfe00; op++ {
		if immOf(op) == "" {
			list = append(list, op)
		}
	}
	return list
}

// TestNoOp: they are refused wherever they stand.
func TestNoOp(t *testing.T) {
	for _, op := range noOps() {
		refusePlaces(t, []api.Instr{{Op: op}}, api.ErrArg)
		for _, list := range [][]api.Instr{
			{{Op: 0x01}, {Op: op}},
			{{Op: op}, {Op: 0x0b}},
			{{Op: 0x02, Then: []api.Instr{{Op: op}}}},
			{{Op: 0x04, Then: []api.Instr{{Op: op}}}},
			{{Op: 0x04, Then: []api.Instr{{Op: 0x01}, {Op: op}, {Op: 0x01}}}},
			{{Op: 0x04, Has: true, Else: []api.Instr{{Op: op}}}},
			{{Op: 0x04, Else: []api.Instr{{Op: op}}}},
			{{Op: 0x01, Then: []api.Instr{{Op: op}}}},
			{{Op: op, A: 7, Bits: 7}},
			{{Op: op, Then: []api.Instr{{Op: 0x01}}}},
		} {
			expectExpr(t, list, "")
			expect(t, places()[0].put(list), "", api.ErrArg)
		}
	}
	// An else and an end that would be read as a block's own.
	refusePlaces(t, []api.Instr{{Op: 0x04, Then: []api.Instr{{Op: 0x05}}}}, api.ErrArg)
	refusePlaces(t, []api.Instr{{Op: 0x02}, {Op: 0x0b}}, api.ErrArg)
	refusePlaces(t, []api.Instr{{Op: 0x01}, {Op: 0x0b}, {Op: 0x01}}, api.ErrArg)
}

// TestInstrType: each byte as an instruction's type.
func TestInstrType(t *testing.T) {
	for b := range 256 {
		of := byte(b)
		for _, op := range []int{0x02, 0x03, 0x04} {
			in := api.Instr{Op: op, Type: of, Then: []api.Instr{{Op: 0x01}}}
			switch of {
			case 0:
				expectPlaces(t, []api.Instr{in}, string([]byte{byte(op)})+"\x40\x01\x0b\x0b")
			case 0x7c, 0x7d, 0x7e, 0x7f:
				expectPlaces(t, []api.Instr{in}, string([]byte{byte(op), of})+"\x01\x0b\x0b")
			default:
				refusePlaces(t, []api.Instr{in}, api.ErrArg)
			}
		}
		for _, op := range []int{0x01, 0x41, 0x0c, 0x0e, 0xfc00} {
			if of != 0 {
				refusePlaces(t, []api.Instr{{Op: op, Type: of}}, api.ErrArg)
			}
		}
	}
}

// TestBlocks: blocks, loops and ifs, with an else and without, and with nothing in it.
func TestBlocks(t *testing.T) {
	nop := []api.Instr{{Op: 0x01}}
	for _, x := range []struct {
		list []api.Instr
		s    string
	}{
		{[]api.Instr{{Op: 0x02, Then: nop}}, "\x02\x40\x01\x0b"},
		{[]api.Instr{{Op: 0x03, Then: nop}}, "\x03\x40\x01\x0b"},
		{[]api.Instr{{Op: 0x04, Then: nop}}, "\x04\x40\x01\x0b"},
		{[]api.Instr{{Op: 0x04, Has: true}}, "\x04\x40\x05\x0b"},
		{[]api.Instr{{Op: 0x04, Has: true, Else: []api.Instr{}}}, "\x04\x40\x05\x0b"},
		{[]api.Instr{{Op: 0x04, Then: nop, Has: true}}, "\x04\x40\x01\x05\x0b"},
		{[]api.Instr{{Op: 0x04, Has: true, Else: nop}}, "\x04\x40\x05\x01\x0b"},
		{[]api.Instr{{Op: 0x04, Type: api.I64, Then: i7(), Has: true, Else: nop}, {Op: 0x1a}}, "\x04\x7e\x41\x07\x05\x01\x0b\x1a"},
		{[]api.Instr{{Op: 0x04, Then: []api.Instr{{Op: 0x04, Has: true}}}}, "\x04\x40\x04\x40\x05\x0b\x0b"},
		{[]api.Instr{{Op: 0x04, Then: []api.Instr{{Op: 0x04}}, Has: true}}, "\x04\x40\x04\x40\x0b\x05\x0b"},
		{[]api.Instr{{Op: 0x04, Has: true, Else: []api.Instr{{Op: 0x04, Has: true, Else: []api.Instr{{Op: 0x04}}}}}}, "\x04\x40\x05\x04\x40\x05\x04\x40\x0b\x0b\x0b"},
		{[]api.Instr{{Op: 0x02}, {Op: 0x03}, {Op: 0x04}}, "\x02\x40\x0b\x03\x40\x0b\x04\x40\x0b"},
		{[]api.Instr{{Op: 0x02, Then: []api.Instr{{Op: 0x03, Then: []api.Instr{{Op: 0x0d, A: 1}}}, {Op: 0x00}}}}, "\x02\x40\x03\x40\x0d\x01\x0b\x00\x0b"},
	} {
		expectPlaces(t, x.list, x.s+"\x0b")
	}
}

// nested: so many of an opcode, one in the other, in the Then or the Else, with something in the innermost one.
func nested(op, n int, inElse bool, innermost []api.Instr) []api.Instr {
	list := innermost
	for range n {
		in := api.Instr{Op: op, Then: list}
		if inElse {
			in = api.Instr{Op: op, Has: true, Else: list}
		}
		list = []api.Instr{in}
	}
	return list
}

// TestNest: just as many blocks in one another as there may be, and one more.
func TestNest(t *testing.T) {
	if api.MaxNest != 64 {
		t.Fatal(api.MaxNest)
	}
	nop := []api.Instr{{Op: 0x01}}
	for _, op := range []int{0x02, 0x03, 0x04} {
		ahead := string([]byte{byte(op), 0x40})
		for _, n := range []int{1, 2, 63, 64} {
			expectPlaces(t, nested(op, n, false, nil), strings.Repeat(ahead, n)+strings.Repeat("\x0b", n+1))
			expectPlaces(t, nested(op, n, false, nop), strings.Repeat(ahead, n)+"\x01"+strings.Repeat("\x0b", n+1))
			expectPlaces(t, append(nested(op, n, false, nil), nested(op, n, false, nil)...), strings.Repeat(strings.Repeat(ahead, n)+strings.Repeat("\x0b", n), 2)+"\x0b")
		}
		for _, n := range []int{65, 66, 128, 1000} {
			refusePlaces(t, nested(op, n, false, nil), api.ErrLimit)
			refusePlaces(t, nested(op, n, false, nop), api.ErrLimit)
			refusePlaces(t, append(slices.Clone(nop), nested(op, n, false, nil)...), api.ErrLimit)
			refusePlaces(t, append(nested(op, n, false, nil), nop...), api.ErrLimit)
		}
	}
	for _, n := range []int{1, 63, 64} {
		expectPlaces(t, nested(0x04, n, true, nil), strings.Repeat("\x04\x40\x05", n)+strings.Repeat("\x0b", n+1))
		expectPlaces(t, nested(0x04, n, true, nop), strings.Repeat("\x04\x40\x05", n)+"\x01"+strings.Repeat("\x0b", n+1))
	}
	refusePlaces(t, nested(0x04, 65, true, nil), api.ErrLimit)
	refusePlaces(t, nested(0x04, 1000, true, nop), api.ErrLimit)
	for op := 0x02; op <= 0x04; op++ {
		refusePlaces(t, nested(0x02, 64, false, []api.Instr{{Op: op}}), api.ErrLimit)
	}
	// Those that are no blocks lie in others all the same: how deep is what Depth says of them.
	refusePlaces(t, nested(0x01, 65, false, nil), api.ErrArg)
	refusePlaces(t, nested(0x01, 66, false, nil), api.ErrLimit)
	refusePlaces(t, nested(0x06, 65, false, nil), api.ErrArg)
	refusePlaces(t, nested(0x06, 66, true, nil), api.ErrLimit)
	refusePlaces(t, []api.Instr{{Op: 0x04, Else: nested(0x02, 63, false, nil)}}, api.ErrArg)
	refusePlaces(t, []api.Instr{{Op: 0x04, Else: nested(0x02, 64, false, nil)}}, api.ErrLimit)
}

// TestFarTooDeep: as many as may be given at all.
func TestFarTooDeep(t *testing.T) {
	list := nested(0x04, 60000, false, nil)
	if b, ok := emit.Expr(list); len(b) != 0 || ok {
		t.Error(len(b), ok)
	}
	for _, p := range places() {
		if b, e := emit.Encode(p.put(list)); len(b) != 0 || e != api.ErrLimit {
			t.Error(p.name, len(b), e)
		}
		if !emit.Same(p.put(list), p.put(nested(0x04, 60000, false, nil))) {
			t.Error(p.name)
		}
		if emit.Same(p.put(list), p.put(nested(0x04, 60001, false, nil))) || emit.Same(p.put(list), p.put(nested(0x04, 60000, false, i7()))) {
			t.Error(p.name)
		}
	}
}

// TestLabels: just as many labels as there may be, and one more.
func TestLabels(t *testing.T) {
	for _, n := range []int{0, 1, 2, 127, 128, 4095, 4096} {
		list := times[uint32](n, 9)
		expectPlaces(t, []api.Instr{{Op: 0x0e, List: list, A: 1}}, "\x0e"+leb(uint64(n))+strings.Repeat("\x09", n)+"\x01\x0b")
	}
	for _, n := range []int{4097, 5000, 70000} {
		in := api.Instr{Op: 0x0e, List: times[uint32](n, 9), A: 1}
		refusePlaces(t, []api.Instr{in}, api.ErrLimit)
		refusePlaces(t, []api.Instr{{Op: 0x02, Then: []api.Instr{{Op: 0x01}, in}}}, api.ErrLimit)
		// Beside another field that isn't its own, too; where they are no one's own, they are no list that is read.
		in.B = 1
		refusePlaces(t, []api.Instr{in}, api.ErrLimit)
		refusePlaces(t, []api.Instr{{Op: 0x0c, List: in.List}}, api.ErrArg)
	}
}

// TestLongExpr: an expression has no greatest length; a module has.
func TestLongExpr(t *testing.T) {
	list := times(70000, api.Instr{Op: 0x42, Bits: 1 << 63})
	want := strings.Repeat("\x42\x80\x80\x80\x80\x80\x80\x80\x80\x80\x7f", 70000) + "\x0b"
	if b, ok := emit.Expr(list); string(b) != want || !ok {
		t.Error(len(b), ok)
	}
	for _, p := range places() {
		if b, e := emit.Encode(p.put(list)); len(b) != 0 || e != api.ErrLimit {
			t.Error(p.name, len(b), e)
		}
	}
	list[69999].A = 1
	if b, ok := emit.Expr(list); len(b) != 0 || ok {
		t.Error(len(b), ok)
	}
}

// What is refused

// wrong: a module of which one thing alone is what ErrArg asks for of itself.
type wrong struct {
	name string
	m    api.Module
}

// noNames: texts that are no names.
func noNames() []string {
	return []string{"\xff", "\x80", "\xc0\x80", "\xe2\x82", "a\xc3", "\xed\xa0\x80", "\xf4\x90\x80\x80", "\xf8\x88\x80\x80\x80", "ab\xe2\x82\xac\xff", "\xe0\x80\x80", strings.Repeat("n", 5000) + "\xc2"}
}

// wrongs: each of them alone.
func wrongs() (list []wrong) {
	put := func(name string, m api.Module) { list = append(list, wrong{name, m}) }
	for _, p := range places() {
		put("an opcode in "+p.name, p.put([]api.Instr{{Op: 0x06}}))
		put("an else in "+p.name, p.put([]api.Instr{{Op: 0x05}}))
		put("an end in "+p.name, p.put([]api.Instr{{Op: 0x0b}}))
		put("a negative opcode in "+p.name, p.put([]api.Instr{{Op: -1}}))
		put("a number behind fc in "+p.name, p.put([]api.Instr{{Op: 0xfc08}}))
		put("a type in "+p.name, p.put([]api.Instr{{Op: 0x02, Type: 0x40}}))
		put("a type of no block in "+p.name, p.put([]api.Instr{{Op: 0x01, Type: 0x70}}))
		put("an else of a block in "+p.name, p.put([]api.Instr{{Op: 0x02, Has: true}}))
		put("an else of no block in "+p.name, p.put([]api.Instr{{Op: 0x01, Has: true}}))
		put("an opcode in a block in "+p.name, p.put([]api.Instr{{Op: 0x01}, {Op: 0x04, Has: true, Else: []api.Instr{{Op: 0x06}}}}))
		put("a type in what isn't read in "+p.name, p.put([]api.Instr{{Op: 0x41, Then: []api.Instr{{Op: 0x01, Type: 1}}}}))
	}
	for _, kind := range []int{4, 255, -1, 256, 257, 259, 1 << 32, -1 << 63, 1<<63 - 1} {
		put(fmt.Sprint("an import's kind ", kind), api.Module{Imports: []api.Import{{}, {Kind: kind}}})
		put(fmt.Sprint("an export's kind ", kind), api.Module{Exports: []api.Export{{}, {Kind: kind}}})
	}
	for _, name := range noNames() {
		put(fmt.Sprintf("an import's module %.9q", name), api.Module{Imports: []api.Import{{}, {Module: name}}})
		put(fmt.Sprintf("an import's name %.9q", name), api.Module{Imports: []api.Import{{Name: name, Kind: api.Memory}}})
		put(fmt.Sprintf("an export's name %.9q", name), api.Module{Exports: []api.Export{{Name: "a"}, {Name: name}}})
	}
	for _, of := range []byte{0, 1, 0x40, 0x60, 0x70, 0x7b, 0x80, 0xff} {
		for name, m := range typed(of) {
			put(fmt.Sprint(name, " ", of), m)
		}
	}
	slices.SortFunc(list, func(x, y wrong) int { return strings.Compare(x.name, y.name) })
	return list
}

// typed: modules with a byte in each place where a value's type stands, outside of expressions.
func typed(of byte) map[string]api.Module {
	return map[string]api.Module{
		"a parameter":        {Types: []api.FuncType{{Params: []byte{of}}}},
		"a later parameter":  {Types: []api.FuncType{{}, {Params: []byte{api.I32, of, api.I32}}}},
		"a result":           {Types: []api.FuncType{{Results: []byte{of}}}},
		"a later result":     {Types: []api.FuncType{{Params: []byte{api.I32}, Results: []byte{api.F64, of}}}},
		"a local":            {Funcs: []api.Func{{Locals: []byte{of}}}},
		"a later local":      {Funcs: []api.Func{{}, {Locals: []byte{api.I32, api.I32, of, api.I32}}}},
		"a global":           {Globals: []api.Cell{{Type: api.GlobalType{Type: of}}}},
		"a later global":     {Globals: []api.Cell{{Type: api.GlobalType{Type: api.I32}}, {Type: api.GlobalType{Type: of, Mut: true}}}},
		"an imported global": {Imports: []api.Import{{Kind: api.Global, Global: api.GlobalType{Type: of}}}},
		"a later one":        {Imports: []api.Import{{}, {Kind: api.Global, Global: api.GlobalType{Type: of, Mut: true}}}},
	}
}

// TestWrong: each of them alone.
func TestWrong(t *testing.T) {
	for _, x := range wrongs() {
		if e := expectModel(t, x.m); e != api.ErrArg {
			t.Error(x.name, e)
		}
	}
}

// TestTypes: each byte as a type of a value, in each place.
func TestTypes(t *testing.T) {
	for b := range 256 {
		want := api.ErrArg
		if b >= 0x7c && b <= 0x7f {
			want = api.OK
		}
		for name, m := range typed(byte(b)) {
			if e := expectModel(t, m); e != want {
				t.Error(name, b, e)
			}
		}
	}
}

// TestKinds: those that are some, with the fields of each.
func TestKinds(t *testing.T) {
	for kind := range 4 {
		i := api.Import{Module: "m", Name: "n", Kind: kind}
		s := []string{"\x00\x00", "\x01\x70\x00\x00", "\x02\x00\x00", "\x03\x7f\x00"}[kind]
		if kind == api.Global {
			i.Global.Type = api.I32
		}
		expect(t, api.Module{Imports: []api.Import{i}}, head+sec(2, "\x01\x01m\x01n"+s), api.OK)
		expect(t, api.Module{Exports: []api.Export{{Name: "n", Kind: kind, Index: 5}}}, head+sec(7, "\x01\x01n"+string([]byte{byte(kind), 5})), api.OK)
	}
	for kind := -300; kind < 600; kind++ {
		want := api.ErrArg
		if kind >= 0 && kind <= 3 {
			want = api.OK
		}
		i := api.Import{Kind: kind}
		if kind == api.Global {
			i.Global.Type = api.F64
		}
		for _, m := range []api.Module{{Imports: []api.Import{i}}, {Exports: []api.Export{{Kind: kind}}}} {
			if e := expectModel(t, m); e != want {
				t.Error(kind, e)
			}
		}
	}
}

// TestUnused: fields that a thing's kind doesn't use.
func TestUnused(t *testing.T) {
	for kind := range 4 {
		for name, set := range map[string]func(i *api.Import){
			"Type":          func(i *api.Import) { i.Type = 1 },
			"Limits.Min":    func(i *api.Import) { i.Limits.Min = 1 },
			"Limits.Max":    func(i *api.Import) { i.Limits.Max = 1 },
			"Limits.Has":    func(i *api.Import) { i.Limits.Has = true },
			"Global.Type":   func(i *api.Import) { i.Global.Type = api.I64 },
			"Global.Mut":    func(i *api.Import) { i.Global.Mut = true },
			"no value's":    func(i *api.Import) { i.Global.Type = 5 },
			"all of Limits": func(i *api.Import) { i.Limits = api.Limits{Min: 3, Max: 4, Has: true} },
		} {
			i := api.Import{Module: "m", Kind: kind}
			if kind == api.Global {
				i.Global.Type = api.I32
			}
			set(&i)
			limits := []string{"Limits.Min", "Limits.Has", "all of Limits"}
			uses := [][]string{{"Type"}, limits, limits, {"Global.Type", "Global.Mut"}}
			want := api.ErrArg
			if slices.Contains(uses[kind], name) {
				want = api.OK
			}
			if e := expectModel(t, api.Module{Imports: []api.Import{i}}); e != want {
				t.Error(kind, name, e)
			}
			if e := expectModel(t, api.Module{Imports: []api.Import{{}, i, {}}}); e != want {
				t.Error(kind, name, e)
			}
		}
	}
}

// TestLimits: with a greatest and without; a least above it; and a greatest without one.
func TestLimits(t *testing.T) {
	for _, x := range []struct {
		l api.Limits
		s string
	}{
		{api.Limits{}, "\x00\x00"},
		{api.Limits{Min: 300}, "\x00\xac\x02"},
		{api.Limits{Has: true}, "\x01\x00\x00"},
		{api.Limits{Min: 1, Max: 2, Has: true}, "\x01\x01\x02"},
		{api.Limits{Min: 2, Max: 1, Has: true}, "\x01\x02\x01"},
		{api.Limits{Min: 4294967295, Has: true}, "\x01\xff\xff\xff\xff\x0f\x00"},
		{api.Limits{Max: 4294967295, Has: true}, "\x01\x00\xff\xff\xff\xff\x0f"},
		{api.Limits{Max: 1}, ""},
		{api.Limits{Min: 5, Max: 5}, ""},
		{api.Limits{Min: 5, Max: 4294967295}, ""},
	} {
		e := api.ErrArg
		say := func(s string) string { return "" }
		if x.s != "" {
			e = api.OK
			say = func(s string) string { return s }
		}
		expect(t, api.Module{Tables: []api.Limits{x.l}}, say(head+sec(4, "\x01\x70"+x.s)), e)
		expect(t, api.Module{Memories: []api.Limits{x.l}}, say(head+sec(5, "\x01"+x.s)), e)
		expect(t, api.Module{Tables: []api.Limits{{}, x.l, {}}}, say(head+sec(4, "\x03\x70\x00\x00\x70"+x.s+"\x70\x00\x00")), e)
		expect(t, api.Module{Memories: []api.Limits{{}, x.l}}, say(head+sec(5, "\x02\x00\x00"+x.s)), e)
		expect(t, api.Module{Imports: []api.Import{{Kind: api.Table, Limits: x.l}}}, say(head+sec(2, "\x01\x00\x00\x01\x70"+x.s)), e)
		expect(t, api.Module{Imports: []api.Import{{Kind: api.Memory, Limits: x.l}}}, say(head+sec(2, "\x01\x00\x00\x02"+x.s)), e)
	}
}

// refuse: that module is refused with e.
func refuse(t *testing.T, m api.Module, e api.Errno) {
	t.Helper()
	if b, got := emit.Encode(m); len(b) != 0 || got != e {
		t.Fatalf("%.500v: % .200x %d, not %d", m, b, got, e)
	}
}

// TestDeepFirst: that a list lies too deep is told ahead of each thing that ErrArg asks for, whichever stands first.
func TestDeepFirst(t *testing.T) {
	tooDeep := nested(0x02, 65, false, nil)
	for _, x := range wrongs() {
		for _, p := range places() {
			refuse(t, both(x.m, p.put(tooDeep)), api.ErrLimit)
			refuse(t, both(p.put(tooDeep), x.m), api.ErrLimit)
		}
	}
	for _, in := range []api.Instr{{Op: 0x06}, {Op: 0x05}, {Op: 0x0b}, {Op: 0x01, Type: 1}, {Op: 0x02, Has: true}, {Op: 0x01, A: 1}} {
		for _, list := range [][]api.Instr{
			append([]api.Instr{in}, tooDeep...),
			append(slices.Clone(tooDeep), in),
			nested(0x02, 65, false, []api.Instr{in}),
			nested(0x02, 64, false, []api.Instr{in, {Op: 0x03}}),
			nested(0x04, 65, true, []api.Instr{in}),
		} {
			refusePlaces(t, list, api.ErrLimit)
		}
	}
}

// TestWrongFirst: that something may not be is told ahead of a limit that the bytes are beyond; that they aren't read as it was, behind it.
func TestWrongFirst(t *testing.T) {
	tooMany := []api.Module{
		{Datas: []api.Data{{Bytes: make([]byte, 70000)}}},
		{Tables: make([]api.Limits, 4097)},
		{Exports: make([]api.Export, 4097)},
		{Imports: make([]api.Import, 4097)},
		{Types: []api.FuncType{{Params: times[byte](4097, api.I32)}}},
		{Funcs: []api.Func{{Locals: times[byte](1025, api.I32)}}},
		{Funcs: []api.Func{{Body: []api.Instr{{Op: 0x0e, List: make([]uint32, 4097)}}}}},
	}
	for _, many := range tooMany {
		expect(t, many, "", api.ErrLimit)
		for _, x := range wrongs() {
			refuse(t, both(x.m, many), api.ErrArg)
			refuse(t, both(many, x.m), api.ErrArg)
		}
		for _, other := range []api.Module{
			{Start: 1},
			{Tables: []api.Limits{{Max: 1}}},
			{Memories: []api.Limits{{Max: 1}}},
			{Imports: []api.Import{{Kind: api.Memory, Type: 1}}},
			{Imports: []api.Import{{Global: api.GlobalType{Type: 5}}}},
			{Imports: []api.Import{{Kind: api.Global, Global: api.GlobalType{Type: api.I32}, Limits: api.Limits{Has: true}}}},
			{Funcs: []api.Func{{Body: []api.Instr{{Op: 0x01, A: 1}}}}},
			{Globals: []api.Cell{{Type: api.GlobalType{Type: api.I32}, Init: []api.Instr{{Op: 0x41, Bits: 1 << 32}}}}},
			{Elems: []api.Elem{{Offset: []api.Instr{{Op: 0x02, Else: i7()}}}}},
			{Datas: []api.Data{{Offset: []api.Instr{{Op: 0x01, List: []uint32{1}}}}}},
		} {
			expect(t, other, "", api.ErrArg)
			expect(t, both(other, many), "", api.ErrLimit)
			expect(t, both(many, other), "", api.ErrLimit)
		}
	}
}

// TestItems: lists of just as many things as there may be, and of one more.
func TestItems(t *testing.T) {
	if api.MaxItems != 4096 {
		t.Fatal(api.MaxItems)
	}
	for _, n := range []int{4095, 4096, 4097, 4098, 10000} {
		want := api.OK
		if n > 4096 {
			want = api.ErrLimit
		}
		for i, m := range []api.Module{
			{Types: make([]api.FuncType, n)},
			{Types: []api.FuncType{{Params: times[byte](n, api.F64)}}},
			{Types: []api.FuncType{{}, {Results: times[byte](n, api.F64)}}},
			{Imports: make([]api.Import, n)},
			{Funcs: make([]api.Func, n)},
			{Tables: make([]api.Limits, n)},
			{Memories: make([]api.Limits, n)},
			{Globals: times(n, api.Cell{Type: api.GlobalType{Type: api.I32}})},
			{Exports: make([]api.Export, n)},
			{Elems: make([]api.Elem, n)},
			{Elems: []api.Elem{{}, {Funcs: make([]uint32, n)}}},
			{Datas: make([]api.Data, n)},
		} {
			if e := expectModel(t, m); e != want {
				t.Error(i, n, e)
			}
		}
		// Neither bytes nor instructions are such a list.
		if e := expectModel(t, api.Module{Datas: []api.Data{{Bytes: make([]byte, n)}}}); e != api.OK {
			t.Error(n, e)
		}
		if e := expectModel(t, api.Module{Funcs: []api.Func{{Body: make([]api.Instr, n)}}}); e != api.OK {
			t.Error(n, e)
		}
		if e := expectModel(t, api.Module{Exports: []api.Export{{Name: strings.Repeat("n", n)}}}); e != api.OK {
			t.Error(n, e)
		}
	}
}

// TestMaxBytes: just as many bytes as there may be, and one more.
func TestMaxBytes(t *testing.T) {
	const most = 65536
	if api.MaxBytes != most {
		t.Fatal(api.MaxBytes)
	}
	fills := map[string]func(n int) api.Module{
		"data":     func(n int) api.Module { return api.Module{Datas: []api.Data{{Bytes: make([]byte, n)}}} },
		"name":     func(n int) api.Module { return api.Module{Exports: []api.Export{{Name: strings.Repeat("n", n)}}} },
		"function": func(n int) api.Module { return api.Module{Funcs: []api.Func{{Body: make([]api.Instr, n)}}} },
		"sections": func(n int) api.Module {
			m := allModule()
			m.Datas = append(m.Datas, api.Data{Bytes: make([]byte, n)})
			return m
		},
	}
	for name, fill := range fills {
		rest := most - len(bytesOf(fill(40000))) + 40000
		for n := rest - 3; n <= rest+3; n++ {
			want := api.OK
			if n > rest {
				want = api.ErrLimit
			}
			m := fill(n)
			if got := len(bytesOf(m)); got != most+n-rest {
				t.Fatal(name, got)
			}
			s, e := encoded(m)
			if b, got := emit.Encode(m); string(b) != s || got != want || e != want {
				t.Error(name, n-rest, e, got)
			}
			// And with a start that isn't read.
			if want == api.OK {
				want = api.ErrArg
			}
			if name != "sections" {
				m.Start = 77
				refuse(t, m, want)
			}
		}
	}
	expect(t, api.Module{Datas: []api.Data{{Bytes: make([]byte, 1<<20)}}}, "", api.ErrLimit)
	// The lists are each short enough, but not all of them together.
	expect(t, api.Module{Datas: times(4096, api.Data{Bytes: make([]byte, 13)})}, "", api.ErrLimit)
	if e := expectModel(t, api.Module{Datas: times(4096, api.Data{Bytes: make([]byte, 12)})}); e != api.OK {
		t.Error(e)
	}
}

// The same

// leaf: something in a value that can be changed: a number, a text, a bool, or a list as a whole.
type leaf struct {
	name string
	v    reflect.Value
}

// leaves: all of them.
func leaves(name string, v reflect.Value) (list []leaf) {
	switch v.Kind() {
	case reflect.Struct:
		for i := range v.NumField() {
			list = append(list, leaves(name+"."+v.Type().Field(i).Name, v.Field(i))...)
		}
		return list
	case reflect.Slice:
		for i := range v.Len() {
			list = append(list, leaves(fmt.Sprint(name, "[", i, "]"), v.Index(i))...)
		}
	}
	return append(list, leaf{name, v})
}

// others: what a leaf may be changed to.
func others(v reflect.Value) (list []reflect.Value) {
	put := func(x any) { list = append(list, reflect.ValueOf(x).Convert(v.Type())) }
	switch v.Kind() {
	case reflect.Bool:
		put(!v.Bool())
	case reflect.String:
		put(v.String() + "x")
		put("x" + v.String())
		put(v.String() + "\xff")
		if v.Len() > 0 {
			put(v.String()[1:])
			put(v.String()[:v.Len()-1])
			put("." + v.String()[1:])
		}
	case reflect.Int:
		for _, n := range []int64{1, 256, 1 << 32, -1 << 63} {
			put(v.Int() ^ n)
		}
	case reflect.Slice:
		list = append(list, reflect.Append(v.Slice3(0, v.Len(), v.Len()), reflect.Zero(v.Type().Elem())))
		if v.Len() > 0 {
			list = append(list, v.Slice(1, v.Len()), v.Slice(0, v.Len()-1), v.Slice(0, 0), reflect.Zero(v.Type()))
		}
	default:
		for i := range v.Type().Bits() {
			put(v.Uint() ^ 1<<i)
		}
	}
	return list
}

// rich: a module in which each field of each type is set somewhere, of more than one thing.
func rich() api.Module {
	m := allModule()
	any := api.Instr{Op: 0x04, Type: api.I32, A: 1, B: 2, Bits: 3, List: []uint32{4, 5}, Then: []api.Instr{{Op: 0x41, Bits: 6}}, Else: []api.Instr{{Op: 0x0e, List: []uint32{7}}}, Has: true}
	m.Funcs = append(m.Funcs, api.Func{Type: 8, Locals: []byte{api.I32, api.F32}, Body: []api.Instr{any, {Op: 0x01}}})
	m.Globals = append(m.Globals, api.Cell{Init: []api.Instr{any}})
	m.Elems = append(m.Elems, api.Elem{Table: 1, Offset: []api.Instr{any}, Funcs: []uint32{1, 2}})
	m.Datas = append(m.Datas, api.Data{Memory: 1, Offset: []api.Instr{any}, Bytes: []byte("abc")})
	m.Imports = append(m.Imports, api.Import{Module: "m", Name: "n", Kind: 7, Type: 1, Limits: api.Limits{Min: 1, Max: 2, Has: true}, Global: api.GlobalType{Type: 3, Mut: true}})
	return plain(m)
}

// expectSame holds what Same says of two modules, in both orders, against what is wanted; neither are changed.
func expectSame(t *testing.T, what string, a, b api.Module, want bool) {
	t.Helper()
	one, two := full(a), full(b)
	if got := emit.Same(a, b); got != want {
		t.Errorf("%s: %v", what, got)
	}
	if got := emit.Same(b, a); got != want {
		t.Errorf("%s, the other way: %v", what, got)
	}
	if !reflect.DeepEqual(full(a), one) || !reflect.DeepEqual(full(b), two) {
		t.Errorf("%s: changed", what)
	}
}

// TestSame: a module and itself, and one like it in other memory, with other things behind its lists.
func TestSame(t *testing.T) {
	for _, m := range []api.Module{{}, {Starts: true}, {Start: 5}, addModule(), allModule(), rich()} {
		expectSame(t, "itself", m, m, true)
		expectSame(t, "a copy", m, plain(m), true)
		expectSame(t, "a copy with room", m, roomy(m), true)
		expectSame(t, "two with room", roomy(m), roomy(m), true)
	}
	expectSame(t, "nothing and add", api.Module{}, addModule(), false)
	expectSame(t, "nothing and start", api.Module{}, api.Module{Starts: true}, false)
	expectSame(t, "nothing and a start that isn't one", api.Module{}, api.Module{Start: 1}, false)
}

// TestDifferent: modules that differ in one field, or in one list's length; each field of each type, wherever it stands.
func TestDifferent(t *testing.T) {
	m := rich()
	all := leaves("m", reflect.ValueOf(&m).Elem())
	if len(all) < 300 {
		t.Fatal(len(all))
	}
	names := map[string]bool{}
	for _, x := range all {
		was := reflect.ValueOf(x.v.Interface())
		before := plain(m)
		for _, other := range others(x.v) {
			x.v.Set(other)
			if one, two := emit.Same(before, m), emit.Same(m, before); one || two {
				t.Error(x.name, other, one, two)
			}
			x.v.Set(was)
		}
		expectSame(t, x.name, plain(m), m, true)
		names[x.name[strings.LastIndex(x.name, ".")+1:]] = true
	}
	if !same(m, rich()) {
		t.Error("not as it was")
	}
	for _, name := range []string{"Types", "Imports", "Funcs", "Tables", "Memories", "Globals", "Exports", "Starts", "Start", "Elems", "Datas", "Params", "Results", "Module", "Name", "Kind", "Type", "Limits", "Min", "Max", "Has", "Mut", "Index", "Locals", "Body", "Op", "A", "B", "Bits", "List", "Then", "Else", "Init", "Table", "Offset", "Memory", "Bytes"} {
		if name != "Limits" && !names[name] {
			t.Error(name)
		}
	}
}

// TestSwapped: the same things in another order, or in other lists.
func TestSwapped(t *testing.T) {
	for _, x := range [][2]api.Module{
		{{Types: []api.FuncType{{Params: []byte{api.I32}}}}, {Types: []api.FuncType{{Results: []byte{api.I32}}}}},
		{{Types: []api.FuncType{{Params: []byte{api.I32, api.I64}}}}, {Types: []api.FuncType{{Params: []byte{api.I64, api.I32}}}}},
		{{Tables: []api.Limits{{Min: 1}}}, {Memories: []api.Limits{{Min: 1}}}},
		{{Tables: []api.Limits{{}}}, {Memories: []api.Limits{{}}}},
		{{Tables: []api.Limits{{Min: 1}, {}}}, {Tables: []api.Limits{{}, {Min: 1}}}},
		{{Imports: []api.Import{{Module: "a", Name: "b"}}}, {Imports: []api.Import{{Module: "b", Name: "a"}}}},
		{{Imports: []api.Import{{Module: "ab"}}}, {Imports: []api.Import{{Module: "a", Name: "b"}}}},
		{{Exports: []api.Export{{Name: "a"}, {Name: "b"}}}, {Exports: []api.Export{{Name: "b"}, {Name: "a"}}}},
		{{Exports: []api.Export{{Name: "a"}}}, {Exports: []api.Export{{Name: "a"}, {Name: "a"}}}},
		{{Elems: make([]api.Elem, 2)}, {Datas: make([]api.Data, 2)}},
		{{Elems: []api.Elem{{Funcs: []uint32{1, 2}}}}, {Elems: []api.Elem{{Funcs: []uint32{1}}, {Funcs: []uint32{2}}}}},
		{{Funcs: []api.Func{{Body: []api.Instr{{Op: 0x04, Then: i7()}}}}}, {Funcs: []api.Func{{Body: []api.Instr{{Op: 0x04, Else: i7()}}}}}},
		{{Funcs: []api.Func{{Body: []api.Instr{{Op: 0x02, Then: i7()}}}}}, {Funcs: []api.Func{{Body: append([]api.Instr{{Op: 0x02}}, i7()...)}}}},
		{{Funcs: []api.Func{{Body: []api.Instr{{Op: 0x28, A: 1}}}}}, {Funcs: []api.Func{{Body: []api.Instr{{Op: 0x28, B: 1}}}}}},
		{{Funcs: []api.Func{{Body: []api.Instr{{Op: 0x04, Has: true}}}}}, {Funcs: []api.Func{{Body: []api.Instr{{Op: 0x04}}}}}},
	} {
		expectSame(t, fmt.Sprint(x), x[0], x[1], false)
	}
}

// TestEmptyLists: a list that is there and empty, and one that isn't there: the same, wherever it stands; encoded alike, too.
func TestEmptyLists(t *testing.T) {
	m := rich()
	good := allModule()
	for _, x := range []*api.Module{&m, &good} {
		emptied := 0
		for _, y := range leaves("m", reflect.ValueOf(x).Elem()) {
			if y.v.Kind() != reflect.Slice {
				continue
			}
			was := reflect.ValueOf(y.v.Interface())
			y.v.Set(reflect.Zero(y.v.Type()))
			without := plain(*x)
			b, e := emit.Encode(*x)
			y.v.Set(reflect.MakeSlice(y.v.Type(), 0, 3))
			expectSame(t, y.name, without, *x, true)
			if c, f := emit.Encode(*x); string(b) != string(c) || e != f {
				t.Error(y.name, e, f)
			}
			y.v.Set(was)
			emptied++
		}
		if emptied < 50 {
			t.Error(emptied)
		}
	}
}

// TestSameModel: modules without a pattern, and others near them.
func TestSameModel(t *testing.T) {
	d := newDice()
	told := map[bool]int{}
	for range 3000 {
		a := d.module()
		b := plain(a)
		if d.below(2) == 0 {
			b = roomy(b)
		}
		d.change(&b)
		want := same(a, b)
		told[want]++
		expectSame(t, "near", a, b, want)
		c := d.module()
		expectSame(t, "far", a, c, same(a, c))
	}
	if told[true] < 100 || told[false] < 1000 {
		t.Error(told)
	}
}

// Modules without a pattern

// change changes something in a module, or nothing.
func (d *dice) change(m *api.Module) {
	all := leaves("m", reflect.ValueOf(m).Elem())
	x := all[d.below(len(all))].v
	switch x.Kind() {
	case reflect.Slice:
		more := reflect.Append(x.Slice3(0, x.Len(), x.Len()), reflect.Zero(x.Type().Elem()))
		x.Set(one(d, x.Slice(0, x.Len()/2), more, reflect.Zero(x.Type()), reflect.AppendSlice(x.Slice3(0, x.Len(), x.Len()), x)))
	case reflect.Bool:
		x.SetBool(d.below(2) == 0)
	case reflect.String:
		x.SetString(one(d, "", "a", "\xff", "n\xc3", d.name()))
	case reflect.Int:
		x.SetInt(int64(one(d, 0, 1, 2, 3, 4, 5, 0x0b, -1, 255, 256, 0x41, 0x0e, 0xfc07, 0xfc08)))
	case reflect.Uint8:
		x.SetUint(uint64(one[byte](d, 0, 1, 0x40, 0x70, 0x7b, 0x80, 0xff, d.value())))
	case reflect.Uint32:
		x.SetUint(uint64(one(d, 0, d.u32())))
	default:
		x.SetUint(one(d, 0, d.u64()))
	}
}

// TestNear: modules without a pattern, and others near them, against the chapter's words.
func TestNear(t *testing.T) {
	d := newDice()
	told := map[api.Errno]int{}
	for range 4000 {
		m := d.module()
		if e := expectModel(t, m); e != api.OK {
			t.Fatal(e, m)
		}
		for range 1 + d.below(3) {
			d.change(&m)
		}
		told[expectModel(t, m)]++
		for _, f := range m.Funcs {
			expectExprModel(t, f.Body)
		}
	}
	if told[api.OK] < 1000 || told[api.ErrArg] < 1000 {
		t.Error(told)
	}
}

// TestExprNear: the same of instructions alone.
func TestExprNear(t *testing.T) {
	d := newDice()
	told := map[bool]int{}
	for range 10000 {
		m := api.Module{Funcs: []api.Func{{Body: d.expr()}}}
		if !expectExprModel(t, m.Funcs[0].Body) {
			t.Fatal(m)
		}
		d.change(&m)
		for _, f := range m.Funcs {
			told[expectExprModel(t, f.Body)]++
		}
	}
	if told[true] < 1000 || told[false] < 1000 {
		t.Error(told)
	}
}

// TestDecoded: what is encoded is decoded as it was, with anything of the number 0 between its sections, too.
func TestDecoded(t *testing.T) {
	d := newDice()
	for i := range 2000 {
		m := d.module()
		if i == 0 {
			m = allModule()
		}
		b, e := emit.Encode(m)
		read, again := module.Decode(b, true)
		if e != api.OK || again != api.OK || !same(read, m) {
			t.Fatal(e, again, m)
		}
		if c, e := emit.Encode(read); string(c) != string(b) || e != api.OK {
			t.Fatal(e, m)
		}
		// Only what numbers that stop at an end need them for is not read without them.
		_, without := module.Decode(b, false)
		sat := false
		for _, f := range m.Funcs {
			each(f.Body, 0, func(in api.Instr, _ int) { sat = sat || in.Op > 255 })
		}
		if !sat && without != api.OK && !strings.Contains(string(b), "\xfc") {
			t.Fatal(without)
		}
	}
}

// loose writes modules in longer forms than they need.
type loose struct {
	*dice
	most int // how many bytes more a number has, at most
}

// size: how many bytes a number has at least, of at most so many.
func (l loose) size(n string, most int) int {
	return min(most, len(n)+l.below(l.most+1))
}

func (l loose) u32(n uint32) string { return lebOf(uint64(n), l.size(leb(uint64(n)), 5)) }

func (l loose) count(n int) string { return l.u32(uint32(n)) }

func (l loose) sized(s string) string { return l.count(len(s)) + s }

func (l loose) signed(n int64, most int) string { return signed(n, l.size(signed(n, 1), most)) }

// list: so many things, each written by one.
func longList[T any](l loose, things []T, one func(T) string) string {
	return l.count(len(things)) + strings.Join(texts(things, one), "")
}

func (l loose) instr(in api.Instr) string {
	s := instrOf(api.Instr{Op: in.Op})[:1]
	if in.Op > 255 {
		return s + l.u32(uint32(in.Op%256))
	}
	switch immOf(in.Op) {
	case "block":
		s = instrOf(api.Instr{Op: in.Op, Type: in.Type})[:2] + l.instrs(in.Then)
		if in.Has {
			s += "\x05" + l.instrs(in.Else)
		}
		return s + "\x0b"
	case "label", "index":
		return s + l.u32(in.A)
	case "labels":
		return s + longList(l, in.List, l.u32) + l.u32(in.A)
	case "indirect":
		return s + l.u32(in.A) + "\x00"
	case "memory":
		return s + l.u32(in.A) + l.u32(in.B)
	case "i32":
		return s + l.signed(int64(int32(in.Bits)), 5)
	case "i64":
		return s + l.signed(int64(in.Bits), 10)
	}
	return instrOf(in)
}

func (l loose) instrs(list []api.Instr) string { return strings.Join(texts(list, l.instr), "") }

func (l loose) expr(list []api.Instr) string { return l.instrs(list) + "\x0b" }

func (l loose) limits(x api.Limits) string {
	if x.Has {
		return "\x01" + l.u32(x.Min) + l.u32(x.Max)
	}
	return "\x00" + l.u32(x.Min)
}

// locals: in groups that could be one, and some of none.
func (l loose) locals(list []byte) string {
	var groups []string
	for at := 0; at < len(list); {
		if l.most > 0 && l.below(4) == 0 {
			groups = append(groups, l.u32(0)+string([]byte{l.value()}))
		}
		n := 1
		for at+n < len(list) && list[at+n] == list[at] && (l.most == 0 || l.below(4) > 0) {
			n++
		}
		groups = append(groups, l.count(n)+string(list[at:at+1]))
		at += n
	}
	return l.count(len(groups)) + strings.Join(groups, "")
}

// module: its sections, some of nothing among them, and others of the number 0.
func (l loose) module(m api.Module) string {
	contents := [12]string{
		1: longList(l, m.Types, func(f api.FuncType) string {
			return "\x60" + l.sized(string(f.Params)) + l.sized(string(f.Results))
		}),
		2: longList(l, m.Imports, func(i api.Import) string {
			s := l.sized(i.Module) + l.sized(i.Name) + string([]byte{byte(i.Kind)})
			switch i.Kind {
			case 0:
				return s + l.u32(i.Type)
			case 1:
				return s + "\x70" + l.limits(i.Limits)
			case 2:
				return s + l.limits(i.Limits)
			}
			return s + globalBytes(i.Global)
		}),
		3: longList(l, m.Funcs, func(f api.Func) string { return l.u32(f.Type) }),
		4: longList(l, m.Tables, func(x api.Limits) string { return "\x70" + l.limits(x) }),
		5: longList(l, m.Memories, l.limits),
		6: longList(l, m.Globals, func(c api.Cell) string { return globalBytes(c.Type) + l.expr(c.Init) }),
		7: longList(l, m.Exports, func(x api.Export) string {
			return l.sized(x.Name) + string([]byte{byte(x.Kind)}) + l.u32(x.Index)
		}),
		8: l.u32(m.Start),
		9: longList(l, m.Elems, func(e api.Elem) string {
			return l.u32(e.Table) + l.expr(e.Offset) + longList(l, e.Funcs, l.u32)
		}),
		10: longList(l, m.Funcs, func(f api.Func) string { return l.sized(l.locals(f.Locals) + l.expr(f.Body)) }),
		11: longList(l, m.Datas, func(d api.Data) string {
			return l.u32(d.Memory) + l.expr(d.Offset) + l.sized(string(d.Bytes))
		}),
	}
	s := head
	for number := 1; number <= 11; number++ {
		for l.most > 0 && l.below(6) == 0 {
			s += "\x00" + l.sized(one(l.dice, "\x00", "\x04name", "\x01x\xff\x00\x0b", l.sized("custom")+add))
		}
		has := [12]int{0, len(m.Types), len(m.Imports), len(m.Funcs), len(m.Tables), len(m.Memories), len(m.Globals), len(m.Exports), 0, len(m.Elems), len(m.Funcs), len(m.Datas)}[number] > 0
		if number == 8 && m.Starts || has || l.most > 0 && number != 8 && l.below(4) == 0 {
			s += string([]byte{byte(number)}) + l.sized(contents[number])
		}
	}
	return s
}

// TestLonger: modules with numbers in longer forms than they need, with sections of nothing, and with some of the number 0: they are encoded in no more bytes, and as if they had none of these.
func TestLonger(t *testing.T) {
	d := newDice()
	shorter := 0
	for i := range 6000 {
		m := d.module()
		if i%100 == 0 {
			m = allModule()
		}
		l := loose{d, i % 5}
		s := l.module(m)
		read, e := module.Decode([]byte(s), true)
		if len(s) > 65536 || e != api.OK || !same(read, m) {
			t.Fatalf("%d: % x %v", e, s, m)
		}
		b, e := emit.Encode(read)
		if e != api.OK || string(b) != bytesOf(m) || len(b) > len(s) || l.most == 0 && string(b) != s {
			t.Fatalf("%d: % x, not % x", e, b, s)
		}
		again, e := module.Decode(b, true)
		if e != api.OK || !emit.Same(again, read) {
			t.Fatal(e)
		}
		if len(b) < len(s) {
			shorter++
		}
	}
	if shorter < 4000 {
		t.Error(shorter)
	}
}

// TestAnyBytes: bytes near those of modules: what of them is a module is encoded in no more bytes.
func TestAnyBytes(t *testing.T) {
	d := newDice()
	read := 0
	for range 40000 {
		b := []byte(loose{d, d.below(5)}.module(d.module()))
		for range d.below(3) {
			at := d.below(len(b))
			b[at] = byte(d.next())
		}
		m, e := module.Decode(b, true)
		if e != api.OK {
			continue
		}
		read++
		c, e := emit.Encode(m)
		if e != api.OK || len(c) > len(b) {
			t.Fatalf("%d: % x, not % x", e, c, b)
		}
		if again, e := module.Decode(c, true); e != api.OK || !same(again, m) {
			t.Fatalf("%d: % x, not % x", e, c, b)
		}
	}
	if read < 10000 {
		t.Error(read)
	}
}

// TestShortest: no other bytes of as many, or of less, are read as what was encoded: each byte of it left out, and each one another.
func TestShortest(t *testing.T) {
	want := allModule()
	b, e := emit.Encode(want)
	if e != api.OK {
		t.Fatal(e)
	}
	for at := range b {
		if m, e := module.Decode(slices.Concat(b[:at], b[at+1:]), true); e == api.OK && emit.Same(m, want) {
			t.Error(at)
		}
		for other := range 256 {
			if byte(other) == b[at] {
				continue
			}
			c := slices.Clone(b)
			c[at] = byte(other)
			if m, e := module.Decode(c, true); e == api.OK && emit.Same(m, want) {
				t.Error(at, other)
			}
		}
	}
}

// TestEachExpr: expressions of up to three bytes: what is read of them is written in no more bytes, and as they are, unless a number is longer than it needs.
func TestEachExpr(t *testing.T) {
	read := 0
	for n := range 1 << 16 {
		b := []byte{byte(n), byte(n >> 8), 0x0b, 0x0b}
		c := scan.New(b)
		list := code.Expr(c, true)
		if c.Err() != api.OK {
			continue
		}
		read++
		got, ok := emit.Expr(list)
		if !ok || string(got) != string(b[:c.At()]) {
			t.Fatalf("% x: % x", b, got)
		}
	}
	if read < 10000 {
		t.Error(read)
	}
}

// What is kept, and what is handed out

// TestTwice: the same is answered each time, whatever is asked in between.
func TestTwice(t *testing.T) {
	m := allModule()
	want, _ := encoded(m)
	bad := addModule()
	bad.Start = 1
	for range 5 {
		b, e := emit.Encode(m)
		if string(b) != want || e != api.OK {
			t.Fatal(e)
		}
		if b, e := emit.Encode(bad); len(b) != 0 || e != api.ErrArg {
			t.Fatal(e)
		}
		if b, e := emit.Encode(api.Module{}); string(b) != head || e != api.OK {
			t.Fatal(e)
		}
		for _, f := range m.Funcs {
			want := written(f.Body)
			one, ok := emit.Expr(f.Body)
			two, again := emit.Expr(f.Body)
			if string(one) != want || string(two) != want || !ok || !again {
				t.Fatal(one, two)
			}
		}
		if b, ok := emit.Expr([]api.Instr{{Op: 0x05}}); len(b) != 0 || ok {
			t.Fatal(b)
		}
	}
}

// span: the memory of a list, the room behind it too.
type span struct{ from, to uintptr }

// spans: those of all lists in a value.
func spans(v reflect.Value) (list []span) {
	switch v.Kind() {
	case reflect.Slice:
		if v.Cap() > 0 {
			from := v.Pointer()
			list = append(list, span{from, from + uintptr(v.Cap())*v.Type().Elem().Size()})
		}
		for i := range v.Len() {
			list = append(list, spans(v.Index(i))...)
		}
	case reflect.Struct:
		for i := range v.NumField() {
			list = append(list, spans(v.Field(i))...)
		}
	}
	return list
}

// expectApart: no two of these lists share any memory.
func expectApart(t *testing.T, list []span) {
	t.Helper()
	slices.SortFunc(list, func(x, y span) int { return int(int64(x.from) - int64(y.from)) })
	for i := range list[1:] {
		if list[i].to > list[i+1].from {
			t.Fatal(list[i], list[i+1])
		}
	}
}

// TestApart: what is answered is new memory each time: it shares none with what was handed in, nor with another answer.
func TestApart(t *testing.T) {
	d := newDice()
	modules := []api.Module{{}, addModule(), allModule(), {Datas: []api.Data{{Bytes: []byte("abc")}}}, {Types: []api.FuncType{{Params: []byte{api.I32}}}}}
	for range 100 {
		modules = append(modules, d.module())
	}
	for _, m := range modules {
		m = roomy(m)
		want, _ := encoded(m)
		one, _ := emit.Encode(m)
		two, _ := emit.Encode(m)
		expectApart(t, append(spans(reflect.ValueOf(m)), spans(reflect.ValueOf([][]byte{one, two}))...))
		spoil(reflect.ValueOf(&one).Elem())
		if again, _ := emit.Encode(m); string(two) != want || string(again) != want {
			t.Fatalf("% x", two)
		}
		for i := range m.Funcs {
			list := m.Funcs[i].Body
			want, _ := exprOf(list)
			one, _ := emit.Expr(list)
			two, _ := emit.Expr(list)
			expectApart(t, append(spans(reflect.ValueOf(list)), spans(reflect.ValueOf([][]byte{one, two}))...))
			spoil(reflect.ValueOf(&one).Elem())
			if again, _ := emit.Expr(list); string(two) != want || string(again) != want {
				t.Fatalf("% x", two)
			}
			spoil(reflect.ValueOf(list))
			if string(two) != want {
				t.Fatalf("% x", two)
			}
		}
		// Bytes that were answered stay as they are, whatever becomes of the module.
		spoil(reflect.ValueOf(&m).Elem())
		if string(two) != want {
			t.Fatalf("% x", two)
		}
	}
}

// TestSides: the same module is encoded the same from many sides at once.
func TestSides(t *testing.T) {
	m := allModule()
	want, _ := encoded(m)
	done := make(chan bool)
	for range 8 {
		go func() {
			right := true
			for range 50 {
				b, e := emit.Encode(m)
				x, ok := emit.Expr(m.Funcs[5].Body)
				right = right && e == api.OK && string(b) == want && ok && len(x) == 5 && emit.Same(m, m)
			}
			done <- right
		}()
	}
	for range 8 {
		if !<-done {
			t.Error("another answer")
		}
	}
}
