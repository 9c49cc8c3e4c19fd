package module

import (
	"reflect"
	"slices"
	"strings"
	"testing"

	"trunnion/api"
	"trunnion/scan"
)

// add is a module of a function that adds two numbers.
const add = "\x00asm\x01\x00\x00\x00\x01\x07\x01\x60\x02\x7f\x7f\x01\x7f\x03\x02\x01\x00\x07\x07\x01\x03add\x00\x00\x0a\x09\x01\x07\x00\x20\x00\x20\x01\x6a\x0b"

func addModule() api.Module {
	return api.Module{
		Types:   []api.FuncType{{Params: []byte{api.I32, api.I32}, Results: []byte{api.I32}}},
		Funcs:   []api.Func{{Body: []api.Instr{{Op: 0x20}, {Op: 0x20, A: 1}, {Op: 0x6a}}}},
		Exports: []api.Export{{Name: "add"}},
	}
}

func TestExamples(t *testing.T) {
	expectModule(t, head, api.Module{})
	expectModule(t, add, addModule())
	expectFailure(t, add[:len(add)-1], api.ErrEnd)
	expectFailure(t, add+"\x07", api.ErrSection)
	other := addModule()
	other.Funcs[0].Body[2].Op = 0x7c
	expectModule(t, strings.Replace(add, "\x6a", "\x7c", 1), other)
}

// The first eight bytes, and how many bytes there may be

// TestMagic: each of the first eight bytes another one, and cut off after each, whatever stands behind them.
func TestMagic(t *testing.T) {
	for _, s := range []string{head, add, head + "\x0c", head + "\xff\xff"} {
		for at := range head {
			expectFailure(t, s[:at], api.ErrMagic)
			expectFailure(t, s[:at]+s[at+1:], api.ErrMagic)
			for b := range 256 {
				if byte(b) == head[at] {
					continue
				}
				other := []byte(s)
				other[at] = byte(b)
				expectFailure(t, string(other), api.ErrMagic)
			}
		}
	}
	for _, s := range []string{"", "\x00", "asm\x01\x00\x00\x00", "\x00asm\x00\x00\x00\x01", "\x00ASM\x01\x00\x00\x00", "\x00\x00asm\x01\x00\x00\x00", "msa\x00\x01\x00\x00\x00", "\x01\x00\x00\x00\x00asm", head[:4]} {
		expectFailure(t, s, api.ErrMagic)
	}
	for _, sat := range []bool{false, true} {
		if m, e := Decode(nil, sat); e != api.ErrMagic || !same(m, api.Module{}) {
			t.Error(m, e)
		}
	}
	// They are told ahead of all that is behind them.
	expectFailure(t, head+"\x0c", api.ErrSection)
}

// padded: a module of so many bytes, of a section whose content is dropped, with something behind it.
func padded(n int, behind string) string {
	rest := n - len(head) - len(behind)
	for size := 1; size < 4; size++ {
		content := rest - 1 - size
		if s := leb(uint64(content)); len(s) == size {
			return head + "\x00" + s + "\x00" + strings.Repeat("x", content-1) + behind
		}
	}
	panic(n)
}

// TestMaxBytes: just so many bytes, and one more.
func TestMaxBytes(t *testing.T) {
	const most = 65536
	if api.MaxBytes != most {
		t.Fatal(api.MaxBytes)
	}
	for _, n := range []int{most - 1, most} {
		expectModule(t, padded(n, ""), api.Module{})
		expectModule(t, padded(n, add[len(head):]), addModule())
		expectFailure(t, padded(n, "\x0c"), api.ErrSection)
		expectFailure(t, strings.Repeat("\x00", n), api.ErrMagic)
	}
	for _, n := range []int{most + 1, most + 2, 2 * most, 2*most + 100, 1 << 20} {
		expectFailure(t, padded(n, ""), api.ErrLimit)
		expectFailure(t, padded(n, add[len(head):]), api.ErrLimit)
		expectFailure(t, padded(n, "\x0c"), api.ErrLimit)
		expectFailure(t, strings.Repeat("\x00", n), api.ErrLimit)
	}
	// Data of as many bytes as there may be.
	for _, n := range []int{0, 1, 127, 128, 65000} {
		s := strings.Repeat("d", n)
		expectModule(t, whole(piece{0x0b, vec("\x00\x0b" + sized(s))}), api.Module{Datas: []api.Data{{Bytes: []byte(s)}}})
	}
}

// The sections, each alone

// said: a section, and what it says; of the sections 3 and 0a what it says of each function.
type said struct {
	piece
	want api.Module
}

// things: of every section but 3 and 0a contents of one thing, each with the module of it alone.
func things() []said {
	i7 := []api.Instr{{Op: 0x41, Bits: 7}}
	types := func(x ...api.FuncType) api.Module { return api.Module{Types: x} }
	imports := func(x ...api.Import) api.Module { return api.Module{Imports: x} }
	tables := func(x ...api.Limits) api.Module { return api.Module{Tables: x} }
	memories := func(x ...api.Limits) api.Module { return api.Module{Memories: x} }
	globals := func(x ...api.Cell) api.Module { return api.Module{Globals: x} }
	exports := func(x ...api.Export) api.Module { return api.Module{Exports: x} }
	elems := func(x ...api.Elem) api.Module { return api.Module{Elems: x} }
	datas := func(x ...api.Data) api.Module { return api.Module{Datas: x} }
	return []said{
		{piece{1, "\x60\x00\x00"}, types(api.FuncType{})},
		{piece{1, "\x60\x01\x7f\x00"}, types(api.FuncType{Params: []byte{api.I32}})},
		{piece{1, "\x60\x00\x01\x7e"}, types(api.FuncType{Results: []byte{api.I64}})},
		{piece{1, "\x60\x02\x7d\x7c\x01\x7f"}, types(api.FuncType{Params: []byte{api.F32, api.F64}, Results: []byte{api.I32}})},
		{piece{1, "\x60\x81\x00\x7f\x82\x80\x00\x7e\x7e"}, types(api.FuncType{Params: []byte{api.I32}, Results: []byte{api.I64, api.I64}})},

		{piece{2, "\x00\x00\x00\x00"}, imports(api.Import{})},
		{piece{2, "\x01m\x04name\x00\x05"}, imports(api.Import{Module: "m", Name: "name", Kind: api.Function, Type: 5})},
		{piece{2, "\x03env\x00\x00\xff\xff\xff\xff\x0f"}, imports(api.Import{Module: "env", Type: 4294967295})},
		{piece{2, "\x00\x01n\x00\x80\x80\x80\x80\x08"}, imports(api.Import{Name: "n", Type: 2147483648})},
		{piece{2, "\x01m\x01t\x01\x70\x00\x03"}, imports(api.Import{Module: "m", Name: "t", Kind: api.Table, Limits: api.Limits{Min: 3}})},
		{piece{2, "\x01m\x01t\x01\x70\x01\x03\x04"}, imports(api.Import{Module: "m", Name: "t", Kind: api.Table, Limits: api.Limits{Min: 3, Max: 4, Has: true}})},
		{piece{2, "\x01m\x01y\x02\x00\x07"}, imports(api.Import{Module: "m", Name: "y", Kind: api.Memory, Limits: api.Limits{Min: 7}})},
		{piece{2, "\x01m\x01y\x02\x01\x07\x00"}, imports(api.Import{Module: "m", Name: "y", Kind: api.Memory, Limits: api.Limits{Min: 7, Has: true}})},
		{piece{2, "\x01m\x01g\x03\x7f\x00"}, imports(api.Import{Module: "m", Name: "g", Kind: api.Global, Global: api.GlobalType{Type: api.I32}})},
		{piece{2, "\x02\xc3\xa9\x03\xe2\x82\xac\x03\x7c\x01"}, imports(api.Import{Module: "\u00e9", Name: "\u20ac", Kind: api.Global, Global: api.GlobalType{Type: api.F64, Mut: true}})},

		{piece{4, "\x70\x00\x00"}, tables(api.Limits{})},
		{piece{4, "\x70\x00\x05"}, tables(api.Limits{Min: 5})},
		{piece{4, "\x70\x01\x05\xff\xff\xff\xff\x0f"}, tables(api.Limits{Min: 5, Max: 4294967295, Has: true})},
		{piece{4, "\x70\x01\x09\x02"}, tables(api.Limits{Min: 9, Max: 2, Has: true})},

		{piece{5, "\x00\x00"}, memories(api.Limits{})},
		{piece{5, "\x00\x80\x80\x04"}, memories(api.Limits{Min: 65536})},
		{piece{5, "\x01\x01\x02"}, memories(api.Limits{Min: 1, Max: 2, Has: true})},
		{piece{5, "\x01\x00\x00"}, memories(api.Limits{Has: true})},

		{piece{6, "\x7f\x00\x0b"}, globals(api.Cell{Type: api.GlobalType{Type: api.I32}})},
		{piece{6, "\x7e\x01\x0b"}, globals(api.Cell{Type: api.GlobalType{Type: api.I64, Mut: true}})},
		{piece{6, "\x7f\x01\x41\x07\x0b"}, globals(api.Cell{Type: api.GlobalType{Type: api.I32, Mut: true}, Init: i7})},
		{piece{6, "\x7d\x00\x43\x0b\x0b\x0b\x0b\x0b"}, globals(api.Cell{Type: api.GlobalType{Type: api.F32}, Init: []api.Instr{{Op: 0x43, Bits: 0x0b0b0b0b}}})},
		{piece{6, "\x7c\x00\x23\x05\x01\x0b"}, globals(api.Cell{Type: api.GlobalType{Type: api.F64}, Init: []api.Instr{{Op: 0x23, A: 5}, {Op: 0x01}}})},

		{piece{7, "\x00\x00\x00"}, exports(api.Export{})},
		{piece{7, "\x01f\x00\x05"}, exports(api.Export{Name: "f", Index: 5})},
		{piece{7, "\x01t\x01\x80\x01"}, exports(api.Export{Name: "t", Kind: api.Table, Index: 128})},
		{piece{7, "\x01m\x02\x00"}, exports(api.Export{Name: "m", Kind: api.Memory})},
		{piece{7, "\x05\xe2\x82\xac\x00\x01\x03\xff\xff\xff\xff\x0f"}, exports(api.Export{Name: "\u20ac\x00\x01", Kind: api.Global, Index: 4294967295})},

		{piece{9, "\x00\x0b\x00"}, elems(api.Elem{})},
		{piece{9, "\x03\x41\x07\x0b\x00"}, elems(api.Elem{Table: 3, Offset: i7})},
		{piece{9, "\x00\x0b\x03\x01\x80\x01\x02"}, elems(api.Elem{Funcs: []uint32{1, 128, 2}})},
		{piece{9, "\xff\xff\xff\xff\x0f\x41\x07\x1a\x0b\x01\xff\xff\xff\xff\x0f"}, elems(api.Elem{Table: 4294967295, Offset: append(i7, api.Instr{Op: 0x1a}), Funcs: []uint32{4294967295}})},

		{piece{0x0b, "\x00\x0b\x00"}, datas(api.Data{})},
		{piece{0x0b, "\x03\x41\x07\x0b\x00"}, datas(api.Data{Memory: 3, Offset: i7})},
		{piece{0x0b, "\x00\x0b\x03abc"}, datas(api.Data{Bytes: []byte("abc")})},
		{piece{0x0b, "\x80\x02\x41\x07\x0b\x82\x00\x0b\xff"}, datas(api.Data{Memory: 256, Offset: i7, Bytes: []byte{0x0b, 0xff}})},
	}
}

// bodies: contents of one function of the section 0a, each with that function.
func bodies() []struct {
	bytes string
	want  api.Func
} {
	return []struct {
		bytes string
		want  api.Func
	}{
		{"\x02\x00\x0b", api.Func{}},
		{"\x82\x80\x00\x00\x0b", api.Func{}},
		{"\x04\x01\x01\x7f\x0b", api.Func{Locals: []byte{api.I32}}},
		{"\x08\x03\x02\x7f\x00\x7e\x01\x7c\x0b", api.Func{Locals: []byte{api.I32, api.I32, api.F64}}},
		{"\x03\x00\x01\x0b", api.Func{Body: []api.Instr{{Op: 0x01}}}},
		{"\x06\x00\x02\x40\x00\x0b\x0b", api.Func{Body: []api.Instr{{Op: 0x02, Then: []api.Instr{{Op: 0x00}}}}}},
		{"\x08\x01\x02\x7d\x20\x00\x20\x01\x0b", api.Func{Locals: []byte{api.F32, api.F32}, Body: []api.Instr{{Op: 0x20}, {Op: 0x20, A: 1}}}},
	}
}

// TestEmpty: each section alone, with a list of nothing, in any form; and start, which has no list.
func TestEmpty(t *testing.T) {
	for number := 1; number <= 11; number++ {
		want := api.Module{Starts: number == 8}
		for _, content := range []string{"\x00", "\x80\x00", "\x80\x80\x00", "\x80\x80\x80\x80\x00"} {
			expectModule(t, whole(piece{number, content}), want)
		}
		expectFailure(t, whole(piece{number, ""}), api.ErrEnd)
		expectFailure(t, whole(piece{number, "\x80"}), api.ErrEnd)
		expectFailure(t, whole(piece{number, "\x80\x80\x80\x80\x10"}), api.ErrLeb)
		expectFailure(t, whole(piece{number, "\x80\x80\x80\x80\x80\x00"}), api.ErrLeb)
	}
}

// TestOne: each section alone, of one thing.
func TestOne(t *testing.T) {
	for _, x := range things() {
		expectModule(t, whole(piece{x.number, "\x01" + x.content}), x.want)
		expectModule(t, whole(piece{x.number, "\x81\x80\x80\x80\x00" + x.content}), x.want)
	}
	for _, start := range []uint32{0, 1, 127, 128, 2147483648, 4294967295} {
		want := api.Module{Starts: true, Start: start}
		expectModule(t, whole(piece{8, leb(uint64(start))}), want)
		expectModule(t, whole(piece{8, lebOf(uint64(start), 5)}), want)
	}
	for _, x := range bodies() {
		for _, of := range []uint32{0, 3, 4294967295} {
			f := x.want
			f.Type = of
			expectModule(t, whole(piece{3, vec(leb(uint64(of)))}, piece{0x0a, vec(x.bytes)}), api.Module{Funcs: []api.Func{f}})
		}
	}
}

// TestMore: each section alone, of all things of its kind, forward and backward.
func TestMore(t *testing.T) {
	for number := 1; number <= 11; number++ {
		for range 2 {
			all := slices.DeleteFunc(things(), func(x said) bool { return x.number != number })
			if len(all) == 0 {
				continue
			}
			expectTogether(t, number, all)
			slices.Reverse(all)
			expectTogether(t, number, all)
			expectTogether(t, number, append(all, all...))
		}
	}
}

// expectTogether: a section of these things is a module of all of them.
func expectTogether(t *testing.T, number int, all []said) {
	t.Helper()
	var want api.Module
	var contents []string
	for _, x := range all {
		contents = append(contents, x.content)
		want = both(want, x.want)
	}
	expectModule(t, whole(piece{number, vec(contents...)}), want)
}

// both: what two modules say, one behind the other; of functions nothing.
func both(a, b api.Module) api.Module {
	return api.Module{
		Types:    slices.Concat(a.Types, b.Types),
		Imports:  slices.Concat(a.Imports, b.Imports),
		Tables:   slices.Concat(a.Tables, b.Tables),
		Memories: slices.Concat(a.Memories, b.Memories),
		Globals:  slices.Concat(a.Globals, b.Globals),
		Exports:  slices.Concat(a.Exports, b.Exports),
		Starts:   a.Starts || b.Starts,
		Start:    a.Start + b.Start,
		Elems:    slices.Concat(a.Elems, b.Elems),
		Datas:    slices.Concat(a.Datas, b.Datas),
	}
}

// all: one section of each number, in their order, and the module of them.
func all() ([]piece, api.Module) {
	var want api.Module
	var pieces []piece
	for number := 1; number <= 11; number++ {
		var contents []string
		for _, x := range things() {
			if x.number == number {
				contents = append(contents, x.content)
				want = both(want, x.want)
			}
		}
		pieces = append(pieces, piece{number, vec(contents...)})
	}
	var types, contents []string
	for i, x := range bodies() {
		f := x.want
		f.Type = uint32(100 + i)
		want.Funcs = append(want.Funcs, f)
		types, contents = append(types, leb(uint64(f.Type))), append(contents, x.bytes)
	}
	pieces[2].content, pieces[9].content = vec(types...), vec(contents...)
	pieces[7].content = "\x09"
	want.Starts, want.Start = true, 9
	return pieces, want
}

// TestAll: all sections one behind the other; with none, or any of them left out.
func TestAll(t *testing.T) {
	pieces, want := all()
	expectModule(t, whole(pieces...), want)
	if len(want.Types) < 2 || len(want.Imports) < 2 || len(want.Funcs) < 2 || len(want.Tables) < 2 || len(want.Memories) < 2 || len(want.Globals) < 2 || len(want.Exports) < 2 || len(want.Elems) < 2 || len(want.Datas) < 2 {
		t.Error(want)
	}
	nothing := reflect.ValueOf(api.Module{})
	fields := [][]string{{"Types"}, {"Imports"}, nil, {"Tables"}, {"Memories"}, {"Globals"}, {"Exports"}, {"Starts", "Start"}, {"Elems"}, nil, {"Datas"}}
	for chosen := range 1 << 11 {
		_, m := all()
		var some []piece
		for i, p := range pieces {
			// Both sections of functions, or none of them.
			has := chosen>>i&1 == 1
			if i == 2 || i == 9 {
				has = chosen>>2&1 == 1
			}
			if has {
				some = append(some, p)
				continue
			}
			for _, name := range fields[i] {
				reflect.ValueOf(&m).Elem().FieldByName(name).Set(nothing.FieldByName(name))
			}
		}
		if chosen>>2&1 == 0 {
			m.Funcs = nil
		}
		expect(t, whole(some...), chosen%2 == 0, m, api.OK)
	}
}

// Sections' numbers

// TestNumbers: rows of up to four sections of any numbers near those that may be, each with a content that all of them may have.
func TestNumbers(t *testing.T) {
	const most = 13
	for length := range 5 {
		rows := 1
		for range length {
			rows *= most + 1
		}
		for row := range rows {
			s, last := head, 0
			want, e := api.Module{}, api.OK
			for range length {
				number := row % (most + 1)
				row /= most + 1
				s += string([]byte{byte(number), 1, 0})
				if number > 11 || number != 0 && number <= last {
					e = api.ErrSection
				}
				last = max(last, number)
				want.Starts = want.Starts || number == 8
			}
			if e != api.OK {
				want = api.Module{}
			}
			expect(t, s, row%2 == 0, want, e)
		}
	}
}

// TestEachNumber: every number in each place among the others, with any content or none at all.
func TestEachNumber(t *testing.T) {
	pieces, want := all()
	for at := range len(pieces) + 1 {
		for number := range 256 {
			for _, behind := range []string{"", "\x00", "\x01\x00", "\x05\x00", "\xff\xff\xff\xff\xff\xff", "\x02\x01\xff"} {
				s := whole(pieces[:at]...) + string([]byte{byte(number)}) + behind
				rest := whole(pieces[at:]...)[len(head):]
				switch {
				case number > 11 || number != 0 && number <= at:
					expectFailure(t, s+rest, api.ErrSection)
				case number == 0 && behind == "\x01\x00":
					expectModule(t, s+rest, want)
				default:
					expectModel(t, s+rest)
				}
			}
		}
	}
}

// TestEachNumberBetween: every number between two others that leave room for some.
func TestEachNumberBetween(t *testing.T) {
	for low := range 12 {
		for high := low + 1; high < 12; high++ {
			for number := range 256 {
				e := api.OK
				if number > 11 || number != 0 && (number <= low || number >= high) {
					e = api.ErrSection
				}
				want := api.Module{}
				if e == api.OK {
					want.Starts = low == 8 || number == 8 || high == 8
				}
				s := whole(piece{low, "\x00"}, piece{number, "\x00"}, piece{high, "\x00"})
				expect(t, s, true, want, e)
				expect(t, s, false, want, e)
			}
		}
	}
}

// TestTwice: a section that stands twice, at once behind itself or later, with what it says, or other things, or nothing.
func TestTwice(t *testing.T) {
	pieces, _ := all()
	for i, p := range pieces {
		for at := i; at < len(pieces); at++ {
			for _, again := range []piece{p, {p.number, "\x00"}, {p.number, ""}} {
				twice := slices.Insert(slices.Clone(pieces), at+1, again)
				expectFailure(t, whole(twice...), api.ErrSection)
				expectFailure(t, whole(slices.Insert(twice, at+1, piece{0, "\x00"})...), api.ErrSection)
			}
		}
		for j := range i {
			swapped := slices.Clone(pieces)
			swapped[i], swapped[j] = swapped[j], swapped[i]
			expectFailure(t, whole(swapped...), api.ErrSection)
		}
	}
	slices.Reverse(pieces)
	expectFailure(t, whole(pieces...), api.ErrSection)
}

// TestNumberFirst: a section's number is told ahead of all that is behind it, and all ahead of it ahead of it.
func TestNumberFirst(t *testing.T) {
	for _, behind := range []string{"", "\x80", "\x05", "\x80\x80\x80\x80\x80", "\x00", "\x01\xff", "\x00\x00", "\x01\x00\x0c"} {
		expectFailure(t, head+"\x0c"+behind, api.ErrSection)
		expectFailure(t, head+"\xff"+behind, api.ErrSection)
		expectFailure(t, head+"\x05\x01\x00\x05"+behind, api.ErrSection)
		expectFailure(t, head+"\x05\x01\x00\x04"+behind, api.ErrSection)
		expectFailure(t, head+"\x03\x02\x01\x00\x02"+behind, api.ErrSection) // ahead of ErrCount
		expectFailure(t, head+"\x01\x02\x01\x61\x01"+behind, api.ErrByte)
	}
}

// customs: contents of the number 0.
func customs() []string {
	return []string{"\x00", "\x80\x00", "\x01x", "\x04name", "\x81\x80\x80\x80\x00x", "\x02\xc3\xa9", "\x03\xe2\x82\xac", "\x04\xf0\x9f\x98\x80", "\x01\x00", sized(strings.Repeat("n", 200))}
}

// TestCustom: sections of the number 0 ahead of, between and behind the others, however many, with any name and anything behind it, change nothing.
func TestCustom(t *testing.T) {
	pieces, want := all()
	for _, name := range customs() {
		for _, behind := range []string{"", "\x00", "\x07", "\xff", "\x80\x80\x80\x80\x80\x80", "\x0b\x0c\x0d", head, add[len(head):], strings.Repeat("\xff", 300)} {
			p := piece{0, name + behind}
			expectModule(t, whole(p), api.Module{})
			expectModule(t, whole(p, p, p), api.Module{})
			for at := range len(pieces) + 1 {
				expectModule(t, whole(slices.Insert(slices.Clone(pieces), at, p)...), want)
				expectModule(t, whole(slices.Insert(slices.Clone(pieces), at, p, piece{0, "\x00"}, p)...), want)
			}
			between := []piece{p}
			for _, other := range pieces {
				between = append(between, other, p)
			}
			expectModule(t, whole(between...), want)
		}
	}
	// 2000 of them.
	expectModule(t, whole(append(times(2000, piece{0, "\x00"}), pieces...)...), want)
}

// TestCustomFaults: one without a name, or with one that is none, in each place.
func TestCustomFaults(t *testing.T) {
	pieces, _ := all()
	for _, x := range []struct {
		content string
		e       api.Errno
	}{
		{"", api.ErrEnd},
		{"\x80", api.ErrEnd},
		{"\x01", api.ErrEnd},
		{"\x05name", api.ErrEnd},
		{"\x05\xff\xff\xff\xff", api.ErrEnd},
		{"\xff\xff\xff\xff\x0f", api.ErrEnd},
		{"\xff\xff\xff\xff\x0fx", api.ErrEnd},
		{"\xff\xff\xff\xff\x1f", api.ErrLeb},
		{"\x80\x80\x80\x80\x80\x00", api.ErrLeb},
		{"\x01\xff", api.ErrName},
		{"\x01\xc3\xa9", api.ErrName},
		{"\x01\x80", api.ErrName},
		{"\x02\xc0\x80", api.ErrName},
		{"\x03\xed\xa0\x80x", api.ErrName},
		{"\x04\xf4\x90\x80\x80", api.ErrName},
		{"\x03a\xffb\x00\x00", api.ErrName},
	} {
		p := piece{0, x.content}
		expectFailure(t, whole(p), x.e)
		for at := range len(pieces) + 1 {
			expectFailure(t, whole(slices.Insert(slices.Clone(pieces), at, p)...), x.e)
		}
		expectFailure(t, whole(piece{0, "\x00"}, p, piece{12, ""}), x.e)
		// A name doesn't go on behind the content.
		expectFailure(t, whole(p)+"\x00\x09abcdefgh", x.e)
	}
}

// Sizes and contents

// TestSizes: a section's size in more bytes than it needs, one that ends too early, is too long, too great or too small.
func TestSizes(t *testing.T) {
	pieces, want := all()
	for at, p := range append(pieces, piece{0, "\x02abc"}) {
		ahead := whole(pieces[:min(at, len(pieces))]...) + string([]byte{byte(p.number)})
		behind := ""
		if at < len(pieces) {
			behind = whole(pieces[at+1:]...)[len(head):]
		}
		size := uint64(len(p.content))
		for least := range 6 {
			expectModule(t, ahead+lebOf(size, least)+p.content+behind, want)
		}
		for _, s := range []string{"", "\x80", "\xff", "\x80\x80\x80\x80", "\xff\xff\xff\xff"} {
			expectFailure(t, ahead+s, api.ErrEnd)
		}
		for _, s := range []string{"\x80\x80\x80\x80\x80", "\x80\x80\x80\x80\x80\x00", "\x80\x80\x80\x80\x10", "\xff\xff\xff\xff\x1f", "\xff\xff\xff\xff\xff", lebOf(size, 6), lebOf(1<<32+size, 1), lebOf(size, 10)} {
			expectFailure(t, ahead+s, api.ErrLeb)
			expectFailure(t, ahead+s+p.content+behind, api.ErrLeb)
		}
		rest := uint64(len(p.content + behind))
		for _, size := range []uint64{rest + 1, rest + 2, rest + 128, 65536, 1 << 31, 1<<31 - 1, 1<<32 - 1} {
			expectFailure(t, ahead+leb(size)+p.content+behind, api.ErrEnd)
		}
		for less := uint64(1); less <= size; less++ {
			expectModel(t, ahead+leb(size-less)+p.content+behind)
		}
		for more := uint64(1); more <= min(uint64(len(behind)), 40); more++ {
			expectFailure(t, ahead+leb(size+more)+p.content+behind, api.ErrSize)
		}
	}
}

// TestNotAllThere: that a content isn't all there is told ahead of all that is in it.
func TestNotAllThere(t *testing.T) {
	for _, s := range []string{"\x01\x05\x00", "\x01\x03\x01\x61", "\x01\x09\x81\x20", "\x00\x03\x01\xff", "\x02\x06\x01\x00\x00\x04\x00", "\x07\x7f\x01\x00\x04\x00", "\x06\x05\x01\x7b\x00\x0b", "\x0a\x08\x01\x02\x00\x06\x0b\x0b", "\x03\x03\x01\x00", "\x08\x02\x00", "\x08\x01"} {
		expectFailure(t, head+s, api.ErrEnd)
		expectFailure(t, head+"\x00\x01\x00"+s, api.ErrEnd)
	}
}

// TestCutContent: each content cut off at each place, its size being that of what is left, whatever stands behind it.
func TestCutContent(t *testing.T) {
	pieces, _ := all()
	single := slices.Clone(pieces)
	for _, x := range things() {
		single = append(single, piece{x.number, "\x01" + x.content}, piece{x.number, "\x02" + x.content + x.content})
	}
	for _, x := range bodies() {
		single = append(single, piece{0x0a, "\x01" + x.bytes}, piece{0x0a, "\x02" + x.bytes + x.bytes})
	}
	single = append(single, piece{3, "\x03\x00\x80\x01\xff\xff\xff\xff\x0f"}, piece{8, "\xff\xff\xff\xff\x0f"})
	for _, p := range single {
		for at := range p.content {
			cut := whole(piece{p.number, p.content[:at]})
			expectFailure(t, cut, api.ErrEnd)
			expectFailure(t, cut+"\x00\x01\x00", api.ErrEnd)
			expectFailure(t, cut+p.content[at:], api.ErrEnd)
			expectFailure(t, cut+"\x0c", api.ErrEnd)
		}
	}
}

// TestLeft: each content with a byte left, or more.
func TestLeft(t *testing.T) {
	pieces, _ := all()
	for at, p := range pieces {
		for _, s := range []string{"\x00", "\x01", "\x0b", "\x7f", "\x80", "\xff", "\x00\x00", p.content, "\x00\x01\x00", strings.Repeat("\x00", 200)} {
			expectFailure(t, whole(piece{p.number, p.content + s}), api.ErrSize)
			row := slices.Clone(pieces)
			row[at].content += s
			expectFailure(t, whole(row...), api.ErrSize)
			expectFailure(t, whole(row[:at+1]...)+"\x0c", api.ErrSize)
			expectFailure(t, whole(row[:at+1]...)+"\x0b", api.ErrSize)
		}
		expectFailure(t, whole(piece{p.number, "\x00\x00"}), api.ErrSize)
		expectFailure(t, whole(piece{p.number, "\x00\xff"}), api.ErrSize)
	}
	for _, x := range things() {
		for b := range 256 {
			expectFailure(t, whole(piece{x.number, "\x01" + x.content + string([]byte{byte(b)})}), api.ErrSize)
		}
	}
}

// TestCutModule: a module cut off at each place is refused, but where a section ends, and no section that must be there is missing.
func TestCutModule(t *testing.T) {
	pieces, _ := all()
	s, bounds := joined(pieces...)
	for at := range s {
		_, e := decode(t, s[:at], false)
		inside := !slices.Contains(bounds, at)
		switch {
		case at < len(head):
			expectFailure(t, s[:at], api.ErrMagic)
		case inside:
			expectFailure(t, s[:at], api.ErrEnd)
		case at >= bounds[3] && at < bounds[10]:
			expectFailure(t, s[:at], api.ErrCount)
		case e != api.OK:
			t.Fatal(at, e)
		}
	}
	for b := range 256 {
		for i, at := range bounds {
			e := api.ErrSection
			if b == 0 || b > i && b <= 11 {
				e = api.ErrEnd
			}
			expectFailure(t, s[:at]+string([]byte{byte(b)}), e)
		}
	}
}

// Kinds

// TestImportKinds: every byte as an import's kind, with what any kind may have behind it.
func TestImportKinds(t *testing.T) {
	for kind := range 256 {
		for _, behind := range []string{"", "\x00", "\x05", "\x70\x00\x05", "\x70\x01\x05\x06", "\x00\x05", "\x01\x05\x06", "\x7f\x00", "\x7c\x01", "\x60\x00\x00"} {
			s := whole(piece{2, "\x01\x01m\x01n" + string([]byte{byte(kind)}) + behind})
			if kind > 3 {
				expectFailure(t, s, api.ErrByte)
				expectFailure(t, whole(piece{2, "\x02\x00\x00\x00\x00\x01m\x01n" + string([]byte{byte(kind)}) + behind}), api.ErrByte)
				continue
			}
			expectModel(t, s)
		}
	}
	for _, x := range []struct {
		thing string
		e     api.Errno
	}{
		{"\x01m\x01n\x00\x80\x80\x80\x80\x10", api.ErrLeb},
		{"\x01m\x01n\x01\x6f\x00\x00", api.ErrType},
		{"\x01m\x01n\x01\x00\x00", api.ErrType},
		{"\x01m\x01n\x01\x70\x02\x00\x00", api.ErrByte},
		{"\x01m\x01n\x01\x70\x00\x80\x80\x80\x80\x10", api.ErrLeb},
		{"\x01m\x01n\x02\x70\x00\x00", api.ErrByte},
		{"\x01m\x01n\x02\x02\x00", api.ErrByte},
		{"\x01m\x01n\x02\x01\x00\x80\x80\x80\x80\x10", api.ErrLeb},
		{"\x01m\x01n\x03\x70\x00", api.ErrType},
		{"\x01m\x01n\x03\x40\x00", api.ErrType},
		{"\x01m\x01n\x03\x7f\x02", api.ErrByte},
		{"\x01\xff\x01n\x00\x00", api.ErrName},
		{"\x01m\x01\xff\x00\x00", api.ErrName},
		{"\x01\xff\x01\xff\x04\x00", api.ErrName},
		{"\x80\x80\x80\x80\x10m\x01\xff\x04", api.ErrLeb},
	} {
		expectFailure(t, whole(piece{2, "\x01" + x.thing}), x.e)
		expectFailure(t, whole(piece{2, "\x02\x00\x00\x00\x00" + x.thing}), x.e)
	}
}

// TestExportKinds: every byte as an export's kind.
func TestExportKinds(t *testing.T) {
	for kind := range 256 {
		thing := "\x01n" + string([]byte{byte(kind)})
		if kind > 3 {
			for _, behind := range []string{"", "\x00", "\x05", "\x80", "\x80\x80\x80\x80\x10", "\x00\x00"} {
				expectFailure(t, whole(piece{7, "\x01" + thing + behind}), api.ErrByte)
				expectFailure(t, whole(piece{7, "\x02\x00\x00\x00" + thing + behind}), api.ErrByte)
			}
			continue
		}
		expectModule(t, whole(piece{7, "\x01" + thing + "\x05"}), api.Module{Exports: []api.Export{{Name: "n", Kind: kind, Index: 5}}})
		expectFailure(t, whole(piece{7, "\x01" + thing + "\x80\x80\x80\x80\x10"}), api.ErrLeb)
		expectFailure(t, whole(piece{7, "\x01" + thing}), api.ErrEnd)
	}
	expectFailure(t, whole(piece{7, "\x01\x01\xff\x04"}), api.ErrName)
	expectFailure(t, whole(piece{7, "\x01\x80\x80\x80\x80\x10\x04"}), api.ErrLeb)
	// Two of one name are read as they are.
	expectModule(t, whole(piece{7, "\x02\x01n\x00\x00\x01n\x00\x00"}), api.Module{Exports: []api.Export{{Name: "n"}, {Name: "n"}}})
}

// TestThingFaults: what of a thing may not be, in sections that have no kinds.
func TestThingFaults(t *testing.T) {
	for _, x := range []struct {
		number int
		thing  string
		e      api.Errno
	}{
		{1, "\x61\x00\x00", api.ErrByte},
		{1, "\x00", api.ErrByte},
		{1, "\x60\x01\x40\x00", api.ErrType},
		{1, "\x60\x00\x01\x70", api.ErrType},
		{1, "\x60\x81\x20\x00", api.ErrLimit},
		{1, "\x60\x00\x81\x20", api.ErrLimit},
		{1, "\x60\x80\x80\x80\x80\x10", api.ErrLeb},
		{3, "\x80\x80\x80\x80\x10", api.ErrLeb},
		{4, "\x6f\x00\x00", api.ErrType},
		{4, "\x00\x00", api.ErrType},
		{4, "\x70\x02\x00", api.ErrByte},
		{4, "\x70\x01\x00\x80\x80\x80\x80\x10", api.ErrLeb},
		{5, "\x02\x00\x00", api.ErrByte},
		{5, "\x70\x00\x00", api.ErrByte},
		{5, "\x00\x80\x80\x80\x80\x10", api.ErrLeb},
		{6, "\x40\x00\x0b", api.ErrType},
		{6, "\x7f\x02\x0b", api.ErrByte},
		{9, "\x80\x80\x80\x80\x10\x0b\x00", api.ErrLeb},
		{9, "\x00\x0b\x80\x80\x80\x80\x10", api.ErrLeb},
		{9, "\x00\x0b\x01\x80\x80\x80\x80\x10", api.ErrLeb},
		{9, "\x00\x0b\x81\x20\x00", api.ErrLimit},
		{0x0b, "\x80\x80\x80\x80\x10\x0b\x00", api.ErrLeb},
		{0x0b, "\x00\x0b\x80\x80\x80\x80\x10", api.ErrLeb},
		{0x0b, "\x00\x0b\xff\xff\xff\xff\x0f", api.ErrEnd},
	} {
		expectFailure(t, whole(piece{x.number, "\x01" + x.thing}), x.e)
		expectFailure(t, whole(piece{x.number, "\x02" + x.thing + "\x00\x00"}), x.e)
		expectFailure(t, whole(piece{x.number, "\x01" + x.thing})+"\x0c", x.e)
	}
}

// TestStart: the section 8.
func TestStart(t *testing.T) {
	expectModule(t, head+"\x08\x01\x00", api.Module{Starts: true})
	expectModule(t, head+"\x08\x01\x07", api.Module{Starts: true, Start: 7})
	expectModule(t, head+"\x08\x05\xff\xff\xff\xff\x0f", api.Module{Starts: true, Start: 4294967295})
	expectFailure(t, head+"\x08\x05\xff\xff\xff\xff\x1f", api.ErrLeb)
	expectFailure(t, head+"\x08\x02\x01\x07", api.ErrSize)
	expectFailure(t, head+"\x08\x00", api.ErrEnd)
	expectFailure(t, head+"\x08\x01\x80", api.ErrEnd)
}

// Bodies

// function: a module of one function with that body, its size being told by itself.
func function(body string) string {
	return whole(piece{3, "\x01\x00"}, piece{0x0a, "\x01" + body})
}

// TestBodySizes: a body's size that is too small or too great, a body that has a byte left or ends too early.
func TestBodySizes(t *testing.T) {
	const body = "\x02\x01\x7f\x01\x7e\x02\x40\x41\x07\x1a\x0b\x0b"
	want := api.Module{Funcs: []api.Func{{Locals: []byte{api.I32, api.I64}, Body: []api.Instr{{Op: 0x02, Then: []api.Instr{{Op: 0x41, Bits: 7}, {Op: 0x1a}}}}}}}
	size := uint64(len(body))
	expectModule(t, function(sized(body)), want)
	for least := range 6 {
		expectModule(t, function(lebOf(size, least)+body), want)
	}
	for at := range body {
		// Its size being that of what is left, whatever stands behind it.
		expectFailure(t, function(sized(body[:at])), api.ErrEnd)
		expectFailure(t, function(sized(body[:at])+body[at:]), api.ErrEnd)
		// Its size being that of all.
		expectFailure(t, function(leb(size)+body[:at]), api.ErrEnd)
		two := piece{0x0a, "\x02" + sized(body[:at]) + sized(body)}
		expectFailure(t, whole(piece{3, "\x02\x00\x00"}, two), api.ErrEnd)
		expectFailure(t, whole(two), api.ErrEnd)
	}
	for b := range 256 {
		s := body + string([]byte{byte(b)})
		expectFailure(t, function(sized(s)), api.ErrSize)
		expectFailure(t, function(sized(body)+string([]byte{byte(b)})), api.ErrSize)
		expectFailure(t, whole(piece{3, "\x02\x00\x00"}, piece{0x0a, "\x02" + sized(s) + sized(body)}), api.ErrSize)
		expectFailure(t, whole(piece{3, "\x02\x00\x00"}, piece{0x0a, "\x02" + sized(body) + sized(s)}), api.ErrSize)
	}
	for _, great := range []uint64{size + 1, size + 2, 65536, 1 << 31, 1<<32 - 1} {
		expectFailure(t, function(leb(great)+body), api.ErrEnd)
		// The section behind it doesn't count.
		expectFailure(t, function(leb(great)+body)+"\x0b\x01\x00", api.ErrEnd)
	}
	// One that goes on into the next body.
	expectFailure(t, whole(piece{3, "\x02\x00\x00"}, piece{0x0a, "\x02" + leb(size+3) + body + "\x02\x00\x0b\x02\x00\x0b"}), api.ErrSize)
	for _, s := range []string{"\x80\x80\x80\x80\x10", "\x80\x80\x80\x80\x80\x00", "\x80\x80\x80\x80\x80", lebOf(1<<32+size, 1)} {
		expectFailure(t, function(s), api.ErrLeb)
		expectFailure(t, function(s+body), api.ErrLeb)
	}
	for _, s := range []string{"", "\x80", "\x80\x80\x80\x80", "\x00", "\x01", "\x01\x00", "\x02\x00"} {
		expectFailure(t, function(s), api.ErrEnd)
	}
	expectFailure(t, function("\x03\x00\x0b\x0b"), api.ErrSize)
	expectFailure(t, function("\x02\x00\x0b\x0b"), api.ErrSize)
}

// TestBodyFirst: that a body isn't all there is told ahead of what is in it, and what is in it ahead of what is left.
func TestBodyFirst(t *testing.T) {
	expectFailure(t, function("\x03\x00\x06"), api.ErrEnd)
	expectFailure(t, function("\x7f\x01\x01\x40\x06"), api.ErrEnd)
	expectFailure(t, function("\x03\x00\x06\x0b"), api.ErrOp)
	expectFailure(t, function("\x04\x00\x06\x0b\x0b\x0b"), api.ErrOp)
	expectFailure(t, function("\x05\x01\x01\x40\x06\x0b\x0b"), api.ErrType)
	expectFailure(t, function("\x06\x01\x81\x08\x7f\x06\x0b\x0b"), api.ErrLimit)
	expectFailure(t, function("\x04\x00\x0b\x06\x0b\x0b"), api.ErrSize)
	// And each body ahead of the next one.
	for _, x := range []struct {
		bodies string
		e      api.Errno
	}{
		{"\x03\x00\x0b\x0b\x03\x00\x06\x0b", api.ErrSize},
		{"\x03\x00\x06\x0b\x03\x00\x0b\x0b", api.ErrOp},
		{"\x02\x00\x0b\x03\x00\x06\x0b", api.ErrOp},
		{"\x02\x00\x0b\x03\x00\x0b\x0b", api.ErrSize},
		{"\x02\x00\x0b\x03\x00\x0b", api.ErrEnd},
		{"\x02\x00\x0b", api.ErrEnd},
		{"\x02\x00\x0b\x80\x80\x80\x80\x10", api.ErrLeb},
		{"\x04\x01\x01\x40\x0b\x80\x80\x80\x80\x10", api.ErrType},
	} {
		expectFailure(t, whole(piece{3, "\x02\x00\x00"}, piece{0x0a, "\x02" + x.bodies}), x.e)
	}
}

// Expressions

// holders: where an expression stands, and what the module of it is.
func holders() []struct {
	name string
	with func(expr string) string
	want func(list []api.Instr) api.Module
} {
	return []struct {
		name string
		with func(expr string) string
		want func(list []api.Instr) api.Module
	}{
		{"global", func(s string) string { return whole(piece{6, "\x01\x7f\x00" + s}) }, func(l []api.Instr) api.Module {
			return api.Module{Globals: []api.Cell{{Type: api.GlobalType{Type: api.I32}, Init: l}}}
		}},
		{"elem", func(s string) string { return whole(piece{9, "\x01\x05" + s + "\x01\x03"}) }, func(l []api.Instr) api.Module {
			return api.Module{Elems: []api.Elem{{Table: 5, Offset: l, Funcs: []uint32{3}}}}
		}},
		{"data", func(s string) string { return whole(piece{0x0b, "\x01\x05" + s + "\x01d"}) }, func(l []api.Instr) api.Module {
			return api.Module{Datas: []api.Data{{Memory: 5, Offset: l, Bytes: []byte("d")}}}
		}},
		{"body", func(s string) string { return function(sized("\x00" + s)) }, func(l []api.Instr) api.Module {
			return api.Module{Funcs: []api.Func{{Body: l}}}
		}},
	}
}

// nested: so many blocks in one another, and their ends.
func nested(n int) (string, []api.Instr) {
	var list []api.Instr
	for range n {
		list = []api.Instr{{Op: 0x02, Then: list}}
	}
	return strings.Repeat("\x02\x40", n) + strings.Repeat("\x0b", n), list
}

// TestExprs: every kind of instruction in each place where an expression stands.
func TestExprs(t *testing.T) {
	for _, h := range holders() {
		expectModule(t, h.with("\x0b"), h.want(nil))
		for _, x := range samples() {
			expectModule(t, h.with(x.bytes+"\x0b"), h.want([]api.Instr{x.want}))
			expectModule(t, h.with("\x01"+x.bytes+x.bytes+"\x0b"), h.want([]api.Instr{{Op: 0x01}, x.want, x.want}))
		}
		for n := range 8 {
			s := h.with("\xfc" + string([]byte{byte(n)}) + "\x0b")
			expect(t, s, true, h.want([]api.Instr{{Op: 0xfc00 + n}}), api.OK)
			expect(t, s, false, api.Module{}, api.ErrOp)
			s = h.with("\x02\x40\x01\xfc" + string([]byte{byte(n)}) + "\x0b\x0b")
			expect(t, s, true, h.want([]api.Instr{{Op: 0x02, Then: []api.Instr{{Op: 0x01}, {Op: 0xfc00 + n}}}}), api.OK)
			expect(t, s, false, api.Module{}, api.ErrOp)
		}
		s, list := nested(64)
		expectModule(t, h.with(s+"\x0b"), h.want(list))
		s, _ = nested(65)
		expectFailure(t, h.with(s+"\x0b"), api.ErrLimit)
	}
}

// TestExprFaults: expressions that fail in each way, with sat and without.
func TestExprFaults(t *testing.T) {
	for _, h := range holders() {
		for _, x := range []struct {
			s string
			e api.Errno
		}{
			{"\x06\x0b", api.ErrOp},
			{"\xff\x0b", api.ErrOp},
			{"\xc0\x0b", api.ErrOp},
			{"\x05\x0b", api.ErrOp},
			{"\x02\x40\x05\x0b\x0b", api.ErrOp},
			{"\x01\x12\x0b", api.ErrOp},
			{"\x02\x00\x0b\x0b", api.ErrType},
			{"\x04\x70\x0b\x0b", api.ErrType},
			{"\x0c\x80\x80\x80\x80\x10\x0b", api.ErrLeb},
			{"\x41\xff\xff\xff\xff\x08\x0b", api.ErrLeb},
			{"\x42\xff\xff\xff\xff\xff\xff\xff\xff\xff\x01\x0b", api.ErrLeb},
			{"\x28\x00\x80\x80\x80\x80\x80\x0b", api.ErrLeb},
			{"\x0e\x81\x20\x00\x0b", api.ErrLimit},
			{"\x11\x00\x01\x0b", api.ErrByte},
			{"\x3f\x01\x0b", api.ErrByte},
			{"\x40\x80\x00\x0b", api.ErrByte},
			{"\x01\x40\x0b\x0b", api.ErrByte},
		} {
			expectFailure(t, h.with(x.s), x.e)
			expectFailure(t, h.with("\x01"+x.s), x.e)
			expectFailure(t, h.with("\x02\x40"+x.s+"\x0b"), x.e)
		}
		for _, s := range []string{"\xfc\x08\x0b", "\xfc\x88\x00\x0b", "\xfc\xff\xff\xff\xff\x0f\x0b"} {
			expectFailure(t, h.with(s), api.ErrOp)
		}
		expect(t, h.with("\xfc\x80\x80\x80\x80\x10\x0b"), true, api.Module{}, api.ErrLeb)
		expect(t, h.with("\xfc\x80\x80\x80\x80\x10\x0b"), false, api.Module{}, api.ErrOp)
		expectModel(t, h.with("\xfc"))
		expectModel(t, h.with("\x01"))
	}
	// Those that the end of the content, or of the body, cuts off, whatever stands behind it.
	for _, s := range []string{"", "\x01", "\x02\x40\x0b", "\x41", "\x41\x80", "\x43\x0b\x0b\x0b", "\x44\x0b\x0b\x0b\x0b\x0b\x0b\x0b", "\x0e\x02\x00", "\x28\x00", "\x11\x00", "\x3f", "\x04\x40\x05\x0b"} {
		for _, behind := range []string{"", "\x0b\x01\x00", "\x00\x01\x00", "\x0b\x0b\x0b\x0b\x0b\x0b\x0b\x0b"} {
			expectFailure(t, whole(piece{6, "\x01\x7f\x00" + s})+behind, api.ErrEnd)
			expectFailure(t, whole(piece{9, "\x01\x00" + s})+behind, api.ErrEnd)
			expectFailure(t, whole(piece{0x0b, "\x01\x00" + s})+behind, api.ErrEnd)
			expectFailure(t, function(sized("\x00"+s))+behind, api.ErrEnd)
			expectFailure(t, function(sized("\x00"+s)+behind)+behind, api.ErrEnd)
		}
	}
}

// TestExprEnds: the first end that isn't a block's is an expression's, and what is behind it is what it would be there.
func TestExprEnds(t *testing.T) {
	expectFailure(t, whole(piece{6, "\x01\x7f\x00\x0b\x0b"}), api.ErrSize)
	expectModule(t, whole(piece{6, "\x02\x7f\x00\x0b\x7e\x01\x01\x0b"}), api.Module{Globals: []api.Cell{{Type: api.GlobalType{Type: api.I32}}, {Type: api.GlobalType{Type: api.I64, Mut: true}, Init: []api.Instr{{Op: 0x01}}}}})
	expectModule(t, whole(piece{9, "\x01\x00\x0b\x01\x0b"}), api.Module{Elems: []api.Elem{{Funcs: []uint32{0x0b}}}})
	expectModule(t, whole(piece{0x0b, "\x01\x00\x0b\x0b" + strings.Repeat("\x0b", 11)}), api.Module{Datas: []api.Data{{Bytes: []byte(strings.Repeat("\x0b", 11))}}})
}

// Lists

// lists: of each list of a module the bytes ahead of its count, a thing of it, and the bytes behind it; and how many things of it are read.
func lists() []struct {
	name  string
	with  func(list string) string
	thing string
	count func(m api.Module) int
} {
	return []struct {
		name  string
		with  func(list string) string
		thing string
		count func(m api.Module) int
	}{
		{"types", func(s string) string { return whole(piece{1, s}) }, "\x60\x00\x00", func(m api.Module) int { return len(m.Types) }},
		{"params", func(s string) string { return whole(piece{1, "\x01\x60" + s + "\x00"}) }, "\x7f", func(m api.Module) int { return len(m.Types[0].Params) }},
		{"results", func(s string) string { return whole(piece{1, "\x01\x60\x00" + s}) }, "\x7c", func(m api.Module) int { return len(m.Types[0].Results) }},
		{"imports", func(s string) string { return whole(piece{2, s}) }, "\x00\x00\x00\x00", func(m api.Module) int { return len(m.Imports) }},
		{"tables", func(s string) string { return whole(piece{4, s}) }, "\x70\x00\x00", func(m api.Module) int { return len(m.Tables) }},
		{"memories", func(s string) string { return whole(piece{5, s}) }, "\x00\x00", func(m api.Module) int { return len(m.Memories) }},
		{"globals", func(s string) string { return whole(piece{6, s}) }, "\x7f\x00\x0b", func(m api.Module) int { return len(m.Globals) }},
		{"exports", func(s string) string { return whole(piece{7, s}) }, "\x00\x00\x00", func(m api.Module) int { return len(m.Exports) }},
		{"elems", func(s string) string { return whole(piece{9, s}) }, "\x00\x0b\x00", func(m api.Module) int { return len(m.Elems) }},
		{"elem's functions", func(s string) string { return whole(piece{9, "\x01\x00\x0b" + s}) }, "\x07", func(m api.Module) int { return len(m.Elems[0].Funcs) }},
		{"locals", func(s string) string { return function(sized(s + "\x0b")) }, "\x00\x7f", func(m api.Module) int { return 0 }},
		{"datas", func(s string) string { return whole(piece{0x0b, s}) }, "\x00\x0b\x00", func(m api.Module) int { return len(m.Datas) }},
	}
}

// TestLists: lists of none, of one, of MaxItems things, and of one more, whose things are there or not.
func TestLists(t *testing.T) {
	if api.MaxItems != 4096 {
		t.Fatal(api.MaxItems)
	}
	for _, l := range lists() {
		for _, n := range []int{0, 1, 2, 127, 128, 1000, 4095, 4096} {
			m, e := decode(t, l.with(vec(times(n, l.thing)...)), true)
			want := n
			if l.name == "locals" {
				want = 0
			}
			if e != api.OK || l.count(m) != want {
				t.Fatal(l.name, n, e)
			}
		}
		expectFailure(t, l.with(vec(times(4097, l.thing)...)), api.ErrLimit)
		for _, n := range []uint64{4097, 4098, 8192, 1 << 16, 1<<16 + 1, 1 << 31, 1<<32 - 1} {
			expectFailure(t, l.with(leb(n)), api.ErrLimit)
			expectFailure(t, l.with(leb(n)+l.thing), api.ErrLimit)
		}
	}
}

// TestListsOfFunctions: the same of the sections 3 and 0a.
func TestListsOfFunctions(t *testing.T) {
	for _, n := range []int{0, 1, 2, 127, 128, 4095, 4096} {
		types := piece{3, vec(times(n, "\x05")...)}
		bodies := piece{0x0a, vec(times(n, "\x02\x00\x0b")...)}
		expectModule(t, whole(types, bodies), api.Module{Funcs: times(n, api.Func{Type: 5})})
	}
	many := vec(times(4097, "\x05")...)
	more := vec(times(4097, "\x02\x00\x0b")...)
	expectFailure(t, whole(piece{3, many}), api.ErrLimit)
	expectFailure(t, whole(piece{0x0a, more}), api.ErrLimit)
	expectFailure(t, whole(piece{3, many}, piece{0x0a, more}), api.ErrLimit)
	expectFailure(t, whole(piece{3, vec(times(4096, "\x05")...)}, piece{0x0a, more}), api.ErrLimit)
	expectFailure(t, whole(piece{3, "\x81\x20"}), api.ErrLimit)
	expectFailure(t, whole(piece{0x0a, "\x81\x20"}), api.ErrLimit)
	expectFailure(t, whole(piece{0x0a, "\xff\xff\xff\xff\x0f\x02\x00\x0b"}), api.ErrLimit)
}

// TestCounts: the section 3 with more, with fewer and with just as many things as the section 0a, each of both not there.
func TestCounts(t *testing.T) {
	for types := range 6 {
		for bodies := range 6 {
			a := piece{3, vec(times(types, "\x05")...)}
			b := piece{0x0a, vec(times(bodies, "\x02\x00\x0b")...)}
			want, e := api.Module{}, api.ErrCount
			if types == bodies {
				want, e = api.Module{Funcs: times(types, api.Func{Type: 5})}, api.OK
			}
			for _, row := range [][]piece{{a, b}, {{0, "\x00"}, a, {0, "\x00"}, b, {0, "\x00"}}, {{1, "\x00"}, a, {5, "\x00"}, b, {0x0b, "\x00"}}} {
				expect(t, whole(row...), true, want, e)
				expect(t, whole(row...), false, want, e)
			}
		}
		e := api.ErrCount
		if types == 0 {
			e = api.OK
		}
		for _, sat := range []bool{false, true} {
			expect(t, whole(piece{3, vec(times(types, "\x05")...)}), sat, api.Module{}, e)
			expect(t, whole(piece{0x0a, vec(times(types, "\x02\x00\x0b")...)}), sat, api.Module{}, e)
		}
	}
	// It is told behind all else.
	for _, ahead := range []string{whole(piece{3, "\x01\x00"}), whole(piece{0x0a, "\x01\x02\x00\x0b"}), whole(piece{3, "\x02\x00\x00"}, piece{0x0a, "\x01\x02\x00\x0b"})} {
		expectFailure(t, ahead, api.ErrCount)
		expectFailure(t, ahead+"\x0c", api.ErrSection)
		expectFailure(t, ahead+"\x01", api.ErrSection)
		expectFailure(t, ahead+"\x0b", api.ErrEnd)
		expectFailure(t, ahead+"\x0b\x02\x00\x00", api.ErrSize)
		expectFailure(t, ahead+"\x00\x02\x01\xff", api.ErrName)
		expectFailure(t, ahead+"\x0b\x01\x00", api.ErrCount)
		expectFailure(t, ahead+"\x00\x01\x00", api.ErrCount)
	}
	expectFailure(t, whole(piece{3, "\x01\x00"}, piece{0x0a, "\x02\x02\x00\x0b\x03\x00\x06\x0b"}), api.ErrOp)
	expectFailure(t, whole(piece{3, "\x02\x00\x00"}, piece{0x0a, "\x01\x03\x00\x06\x0b"}), api.ErrOp)
	// Imports of functions don't count.
	expectFailure(t, whole(piece{2, "\x01\x00\x00\x00\x00"}, piece{0x0a, "\x01\x02\x00\x0b"}), api.ErrCount)
}

// Two failures

// TestTwoFailures: of two failures in one module the one that stands first is told.
func TestTwoFailures(t *testing.T) {
	faults := []struct {
		piece
		e api.Errno
	}{
		{piece{1, "\x01\x61"}, api.ErrByte},
		{piece{2, "\x01\x01\xff"}, api.ErrName},
		{piece{3, "\x81\x20"}, api.ErrLimit},
		{piece{4, "\x01\x6f"}, api.ErrType},
		{piece{5, "\x00\x00"}, api.ErrSize},
		{piece{6, "\x01\x7f\x00\x06\x0b"}, api.ErrOp},
		{piece{7, "\x01\x00\x04\x00"}, api.ErrByte},
		{piece{8, "\x80\x80\x80\x80\x10"}, api.ErrLeb},
		{piece{9, "\x01\x00\x0b\x01"}, api.ErrEnd},
		{piece{0x0a, "\x01\x0a\x02\x01\x7f\xff\xff\xff\xff\x0f\x7f\x0b"}, api.ErrLocals},
		{piece{0x0b, "\x01\x00\x0b\x00\x00"}, api.ErrSize},
		{piece{0, "\x01\xff"}, api.ErrName},
		{piece{0x0c, "\x00"}, api.ErrSection},
	}
	for i, x := range faults {
		expectFailure(t, whole(x.piece), x.e)
		for j := i + 1; j < len(faults); j++ {
			y := faults[j]
			expectFailure(t, whole(x.piece, y.piece), x.e)
			expectFailure(t, whole(x.piece, piece{0, "\x00"}, y.piece), x.e)
			if y.number == 0 || y.number > 11 {
				expectFailure(t, whole(y.piece, x.piece), y.e)
			}
		}
		for number := x.number + 1; number <= 11; number++ {
			if x.number != 0 {
				expectFailure(t, whole(x.piece, piece{number, ""}), x.e)
				expectFailure(t, whole(piece{number, "\x00"}, x.piece), api.ErrSection)
			}
		}
	}
	// Two in one content.
	for _, x := range []struct {
		piece
		e api.Errno
	}{
		{piece{1, "\x02\x60\x01\x40\x00\x61"}, api.ErrType},
		{piece{1, "\x02\x61\x60\x01\x40\x00"}, api.ErrByte},
		{piece{2, "\x02\x00\x00\x04\x01\xff"}, api.ErrByte},
		{piece{2, "\x02\x01\xff\x00\x00\x00\x00\x00\x04"}, api.ErrName},
		{piece{4, "\x02\x6f\x00\x70\x02"}, api.ErrType},
		{piece{4, "\x02\x70\x02\x6f\x00"}, api.ErrByte},
		{piece{6, "\x02\x40\x00\x0b\x7f\x02"}, api.ErrType},
		{piece{6, "\x02\x7f\x00\x06\x7f\x02"}, api.ErrOp},
		{piece{7, "\x02\x00\x00\x80\x80\x80\x80\x10\x00\x04"}, api.ErrLeb},
		{piece{7, "\x02\x00\x04\x01\x01\xff"}, api.ErrByte},
		{piece{9, "\x02\x00\x0b\x81\x20\x00\x06"}, api.ErrLimit},
		{piece{9, "\x02\x00\x06\x00\x0b\x81\x20"}, api.ErrOp},
		{piece{0x0b, "\x02\x00\x06\x00\x3f\x01"}, api.ErrOp},
		{piece{0x0b, "\x02\x00\x3f\x01\x00\x06"}, api.ErrByte},
		{piece{0x0b, "\x02\x00\x0b\x7f\x00\x06"}, api.ErrEnd},
	} {
		expectFailure(t, whole(x.piece), x.e)
		expectFailure(t, whole(x.piece)+"\x0c", x.e)
	}
}

// Bytes without a pattern

// pads puts sections of the number 0 between others.
func (d *dice) pads(pieces []piece) (list []piece) {
	names := customs()
	for _, p := range append(slices.Clone(pieces), piece{-1, ""}) {
		for d.below(4) == 0 {
			list = append(list, piece{0, names[d.below(len(names))] + strings.Repeat("\x0c", d.below(3))})
		}
		if p.number >= 0 {
			list = append(list, p)
		}
	}
	return list
}

// TestGrown: modules that are put into bytes are read as they were, with and without sections of the number 0, and cut off at each place; P20.3.
func TestGrown(t *testing.T) {
	d := newDice()
	for range 500 {
		want, pieces := d.grown()
		s, bounds := joined(pieces...)
		expectModule(t, s, want)
		expectModel(t, s)
		expectModule(t, whole(d.pads(pieces)...), want)
		for at := range s {
			if slices.Contains(bounds, at) {
				expectModel(t, s[:at])
			} else if _, e := Decode([]byte(s[:at]), true); at >= len(head) && e != api.ErrEnd || at < len(head) && e != api.ErrMagic {
				t.Fatalf("% x: %d", s[:at], e)
			}
		}
		last := 0
		if len(pieces) > 0 {
			last = pieces[len(pieces)-1].number
		}
		for b := range 256 {
			e := api.ErrSection
			if b == 0 || b > last && b <= 11 {
				e = api.ErrEnd
			}
			if _, got := Decode([]byte(s+string([]byte{byte(b)})), false); got != e {
				t.Fatalf("% x %x: %d", s, b, got)
			}
		}
	}
}

// spoilt: bytes with some changed, left out, or put in between.
func (d *dice) spoilt(s string) string {
	b := []byte(s)
	for range 1 + d.below(3) {
		if len(b) == 0 {
			return "\x00"
		}
		at := d.below(len(b))
		other := byte(d.next())
		if d.below(2) == 0 {
			other = []byte{0x00, 0x01, 0x02, 0x03, 0x04, 0x0a, 0x0b, 0x40, 0x60, 0x70, 0x7f, 0x80, 0xfc, 0xff}[d.below(14)]
		}
		switch d.below(3) {
		case 0:
			b[at] = other
		case 1:
			b = slices.Insert(b, at, other)
		case 2:
			b = slices.Delete(b, at, at+1)
		}
	}
	return string(b)
}

// TestNear: modules with some bytes changed, left out, or put in between, in all of them, or in a content whose size is told anew, are read by the chapter's words, or fail by them.
func TestNear(t *testing.T) {
	d := newDice()
	told := map[api.Errno]int{}
	for range 20000 {
		_, pieces := d.grown()
		s := whole(d.pads(pieces)...)
		if len(pieces) > 0 && d.below(4) > 0 {
			at := d.below(len(pieces))
			pieces[at].content = d.spoilt(pieces[at].content)
			s = whole(pieces...)
		} else {
			s = head + d.spoilt(s[len(head):])
		}
		expectModel(t, s)
		_, e := read(s, true)
		told[e]++
	}
	for _, e := range []api.Errno{api.OK, api.ErrLimit, api.ErrEnd, api.ErrLeb, api.ErrName, api.ErrSection, api.ErrSize, api.ErrType, api.ErrByte, api.ErrOp, api.ErrCount} {
		if told[e] < 5 {
			t.Error(e, told[e])
		}
	}
}

// TestAllOfTwoBytes: all two bytes behind the first eight, and all contents of up to two bytes of each section.
func TestAllOfTwoBytes(t *testing.T) {
	for n := range 1 << 16 {
		s := head + string([]byte{byte(n), byte(n >> 8)})
		want, e := read(s, false)
		expect(t, s, false, want, e)
	}
	for number := range 12 {
		for b := range 256 {
			expectModel(t, whole(piece{number, string([]byte{byte(b)})}))
			for _, c := range []byte{0x00, 0x01, 0x02, 0x0b, 0x40, 0x60, 0x70, 0x7f, 0x80, 0xff} {
				expectModel(t, whole(piece{number, string([]byte{byte(b), c})}))
			}
		}
	}
}

// TestEachByte: each byte of a module of all sections every other one.
func TestEachByte(t *testing.T) {
	pieces, _ := all()
	s := whole(pieces...)
	for at := range s {
		for b := range 256 {
			other := []byte(s)
			other[at] = byte(b)
			want, e := read(string(other), b%2 == 0)
			expect(t, string(other), b%2 == 0, want, e)
		}
	}
}

// Memory

// span: the memory of a list, the room behind it too.
type span struct{ from, to uintptr }

// spans: those of all lists in a value.
func spans(v reflect.Value) (list []span) {
	switch v.Kind() {
	case reflect.Slice:
		if v.Cap() > 0 {
			from := v.Pointer()
			list = append(list, span{from, from + uintptr(v.Cap())*v.Type().Elem().Size()})
		}
		for i := range v.Len() {
			list = append(list, spans(v.Index(i))...)
		}
	case reflect.Struct:
		for i := range v.NumField() {
			list = append(list, spans(v.Field(i))...)
		}
	}
	return list
}

// TestApart: no two lists of what is answered share any memory, neither with one another, nor with another answer, nor with the bytes.
func TestApart(t *testing.T) {
	d := newDice()
	pieces, _ := all()
	for i := range 300 {
		if i > 0 {
			_, pieces = d.grown()
		}
		b := []byte(whole(pieces...))
		one, e := Decode(b, true)
		two, _ := Decode(b, true)
		if e != api.OK {
			t.Fatal(e)
		}
		list := append(spans(reflect.ValueOf(one)), spans(reflect.ValueOf(two))...)
		list = append(list, spans(reflect.ValueOf(b))...)
		slices.SortFunc(list, func(x, y span) int { return int(int64(x.from) - int64(y.from)) })
		for i := range list[1:] {
			if list[i].to > list[i+1].from {
				t.Fatalf("% x: %v %v", b, list[i], list[i+1])
			}
		}
	}
}

// spoil changes all that can be got at from a value, the room behind its lists too.
func spoil(v reflect.Value) {
	switch v.Kind() {
	case reflect.Slice:
		v = v.Slice(0, v.Cap())
		for i := range v.Len() {
			spoil(v.Index(i))
		}
	case reflect.Struct:
		for i := range v.NumField() {
			spoil(v.Field(i))
		}
	case reflect.String:
		v.SetString("spoilt")
	case reflect.Bool:
		v.SetBool(!v.Bool())
	case reflect.Int:
		v.SetInt(v.Int() + 1)
	default:
		v.SetUint(v.Uint() ^ 0x55)
	}
}

// TestKept: bytes are read the same each time; what becomes of them behind the call changes nothing of the module, and what becomes of a module changes no other.
func TestKept(t *testing.T) {
	d := newDice()
	pieces, _ := all()
	for i := range 300 {
		if i > 0 {
			_, pieces = d.grown()
		}
		s := whole(pieces...)
		want, _ := read(s, true)
		b := []byte(s)
		one, e := Decode(b, true)
		two, again := Decode(b, true)
		if e != api.OK || again != api.OK || !same(one, want) || !same(two, want) || string(b) != s {
			t.Fatal(e, again)
		}
		for i := range b {
			b[i] = ^b[i]
		}
		if !same(one, want) {
			t.Fatalf("%v, not %v", one, want)
		}
		spoil(reflect.ValueOf(&one).Elem())
		three, _ := Decode([]byte(s), true)
		if !same(two, want) || !same(three, want) {
			t.Fatalf("%v, not %v", two, want)
		}
	}
}

// TestFailuresKeepNothing: a failure leaves nothing for the next call.
func TestFailuresKeepNothing(t *testing.T) {
	pieces, want := all()
	s := whole(pieces...)
	for at := range s {
		Decode([]byte(s[:at]), at%2 == 0)
		if m, e := Decode([]byte(head), true); e != api.OK || !same(m, api.Module{}) {
			t.Fatal(m, e)
		}
	}
	expectModule(t, s, want)
}

// TestSides: the same bytes are read the same from many sides at once.
func TestSides(t *testing.T) {
	pieces, want := all()
	b := []byte(whole(pieces...))
	done := make(chan bool)
	for range 8 {
		go func() {
			right := true
			for range 50 {
				m, e := Decode(b, true)
				right = right && e == api.OK && same(m, want)
			}
			done <- right
		}()
	}
	for range 8 {
		if !<-done {
			t.Error("another answer")
		}
	}
}

// Locals

// expectLocals holds what is read at a place, and where the cursor stands behind it, against what is wanted.
func expectLocals(t *testing.T, ahead, s string, want []byte, behind int, e api.Errno) {
	t.Helper()
	c := scan.New([]byte(ahead + s))
	c.Take(uint32(len(ahead)))
	got := Locals(c)
	if string(got) != string(want) {
		t.Fatalf("% x: % .100x, not % .100x", s, got, want)
	}
	behind += len(ahead)
	if c.At() != behind || c.Left() != len(ahead+s)-behind || c.Err() != e {
		t.Fatalf("% x: at %d with %d, not at %d with %d", s, c.At(), c.Err(), behind, e)
	}
}

// expectInAll: the same at the bytes' beginning and behind others, with nothing behind them and with more; and in a body.
func expectInAll(t *testing.T, s string, want []byte, behind int, e api.Errno) {
	t.Helper()
	for _, ahead := range []string{"", "\x01", "\x7f\x7f\x7f"} {
		expectLocals(t, ahead, s, want, behind, e)
		if e != api.ErrEnd {
			expectLocals(t, ahead, s+"\x00", want, behind, e)
			expectLocals(t, ahead, s+"\x7f\xff\x0b\x01\x7f", want, behind, e)
		}
	}
	m := api.Module{}
	if e == api.OK {
		m.Funcs = []api.Func{{Locals: want}}
		expectModule(t, function(sized(s+"\x0b")), m)
		return
	}
	expectFailure(t, function(sized(s)), e)
	if e != api.ErrEnd {
		expectFailure(t, function(sized(s+"\x06")), e)
		expectFailure(t, function(sized(s+"\x0b\x0b")), e)
	}
}

// row: so many of a type.
func row(n int, of byte) []byte { return times(n, of) }

func TestLocals(t *testing.T) {
	for _, x := range []struct {
		s    string
		want []byte
	}{
		{"\x00", nil},
		{"\x80\x80\x00", nil},
		{"\x01\x01\x7f", []byte{api.I32}},
		{"\x01\x01\x7e", []byte{api.I64}},
		{"\x01\x01\x7d", []byte{api.F32}},
		{"\x01\x01\x7c", []byte{api.F64}},
		{"\x01\x03\x7e", []byte{api.I64, api.I64, api.I64}},
		{"\x81\x00\x82\x80\x80\x80\x00\x7e", []byte{api.I64, api.I64}},
		{"\x02\x02\x7f\x01\x7c", []byte{api.I32, api.I32, api.F64}},
		{"\x02\x01\x7f\x02\x7f", []byte{api.I32, api.I32, api.I32}},
		{"\x03\x01\x7c\x01\x7f\x01\x7c", []byte{api.F64, api.I32, api.F64}},
		{"\x04\x01\x7d\x02\x7e\x01\x7f\x03\x7c", []byte{api.F32, api.I64, api.I64, api.I32, api.F64, api.F64, api.F64}},
		{"\x01\x00\x7f", nil},
		{"\x03\x00\x7f\x02\x7e\x00\x7d", []byte{api.I64, api.I64}},
		{"\x03\x01\x7f\x00\x7e\x01\x7d", []byte{api.I32, api.F32}},
		{vec(times(4096, "\x00\x7e")...), nil},
		{vec(times(1024, "\x01\x7e")...), row(1024, api.I64)},
		{vec(append(times(3072, "\x00\x7f"), times(1024, "\x01\x7e")...)...), row(1024, api.I64)},
		{"\x01\xff\x07\x7f", row(1023, api.I32)},
		{"\x01\x80\x08\x7f", row(1024, api.I32)},
		{"\x02\xff\x07\x7f\x01\x7c", append(row(1023, api.I32), api.F64)},
		{"\x02\x01\x7c\xff\x07\x7f", append([]byte{api.F64}, row(1023, api.I32)...)},
		{"\x03\x80\x08\x7f\x00\x7c\x00\x7e", row(1024, api.I32)},
		{"\x02\x80\x04\x7d\x80\x04\x7d", row(1024, api.F32)},
	} {
		expectInAll(t, x.s, x.want, len(x.s), api.OK)
	}
	if api.MaxLocals != 1024 {
		t.Fatal(api.MaxLocals)
	}
}

// TestTooManyLocals: just MaxLocals and one more, up to 2^32, in one and in several; the cursor stands behind them then.
func TestTooManyLocals(t *testing.T) {
	group := func(n uint64) string { return leb(n) + "\x7e" }
	for _, s := range []string{
		"\x01\x81\x08\x7f",
		"\x02\x80\x08\x7f\x01\x7f",
		"\x02\x01\x7f\x80\x08\x7f",
		"\x03\x81\x04\x7f\x00\x7f\x80\x04\x7c",
		vec(times(1025, "\x01\x7f")...),
		vec(times(4096, "\x01\x7f")...),
		vec(group(2048)),
		vec(group(65536)),
		vec(group(1 << 31)),
		vec(group(1<<31 - 1)),
		vec(group(1<<32 - 2)),
		vec(group(1<<32 - 1)),
		vec(group(1<<32-1), group(0)),
		vec(group(1<<32-2), group(1)),
		vec(group(1), group(1<<32-2)),
		vec(group(1<<31), group(1<<31-1)),
		vec(group(1<<30), group(1<<30), group(1<<30), group(1<<30-1)),
		vec(append(times(4095, group(1<<20)), group(1<<20-1))...),
	} {
		expectInAll(t, s, nil, len(s), api.ErrLimit)
	}
	for _, s := range []string{
		vec(group(1<<32-1), group(1)),
		vec(group(1), group(1<<32-1)),
		vec(group(1<<32-1), group(0), group(1)),
		vec(group(1<<31), group(1<<31)),
		vec(group(1<<32-1), group(1<<32-1)),
		vec(group(1<<32-1), group(5)),
		vec(group(1<<32-1), group(1025)),
		vec(group(1<<32-1), group(2000)),
		vec(group(1<<30), group(1<<30), group(1<<30), group(1<<30)),
		vec(times(4096, group(1<<20))...),
		vec(times(4096, group(1<<32-1))...),
		vec(times(3, group(1<<32-1))...),
		vec(group(1<<31), group(1<<31), group(1<<31), group(1<<31)),
		"\x02\x01\x7f\xff\xff\xff\xff\x0f\x7e",
		"\x02\xff\xff\xff\xff\x0f\x7e\x01\x7f",
	} {
		expectInAll(t, s, nil, len(s), api.ErrLocals)
	}
	// In one that is above what U32 has.
	expectInAll(t, vec(group(1<<32)), nil, 1, api.ErrLeb)
	expectInAll(t, vec(group(1<<33)), nil, 1, api.ErrLeb)
	expectInAll(t, vec(group(1), group(1<<32)), nil, 3, api.ErrLeb)
}

// TestLocalsFaults: what fails ahead of their end; the cursor stands where the call that failed left it.
func TestLocalsFaults(t *testing.T) {
	for _, x := range []struct {
		s  string
		at int
		e  api.Errno
	}{
		{"", 0, api.ErrEnd},
		{"\x80", 0, api.ErrEnd},
		{"\x01", 1, api.ErrEnd},
		{"\x01\x80", 1, api.ErrEnd},
		{"\x01\x05", 2, api.ErrEnd},
		{"\x02\x05\x7f", 3, api.ErrEnd},
		{"\x02\x05\x7f\x80", 3, api.ErrEnd},
		{"\x02\x05\x7f\x80\x01", 5, api.ErrEnd},
		{"\x01\x01\x40", 2, api.ErrType},
		{"\x01\x00\x70", 2, api.ErrType},
		{"\x01\x01\x00", 2, api.ErrType},
		{"\x01\x01\x7b", 2, api.ErrType},
		{"\x01\x01\x80", 2, api.ErrType},
		{"\x01\x80\x01\x60", 3, api.ErrType},
		{"\x02\x01\x7f\x01\x60", 4, api.ErrType},
		{"\x02\x01\x60\x01\x61", 2, api.ErrType},
		{"\x80\x80\x80\x80\x10", 0, api.ErrLeb},
		{"\x80\x80\x80\x80\x80\x00", 0, api.ErrLeb},
		{"\x01\x80\x80\x80\x80\x10\x7f", 1, api.ErrLeb},
		{"\x01\xff\xff\xff\xff\xff\x00\x7f", 1, api.ErrLeb},
		{"\x02\x01\x7f\x80\x80\x80\x80\x10\x7f", 3, api.ErrLeb},
		{"\x81\x20", 0, api.ErrLimit},
		{"\x81\x20\x01\x7f", 0, api.ErrLimit},
		{"\xff\xff\xff\xff\x0f", 0, api.ErrLimit},
		{vec(times(4097, "\x00\x7f")...), 0, api.ErrLimit},

		// A type that is none is told ahead of how many they are, wherever it stands.
		{"\x01\x81\x08\x40", 3, api.ErrType},
		{"\x01\xff\xff\xff\xff\x0f\x40", 6, api.ErrType},
		{"\x02\x81\x08\x7f\x01\x40", 5, api.ErrType},
		{"\x02\x01\x40\x81\x08\x7f", 2, api.ErrType},
		{"\x02\x01\x40\xff\xff\xff\xff\x0f\x7e", 2, api.ErrType},
		{"\x03\x01\x40\x01\x7f\xff\xff\xff\xff\x0f\x7e", 2, api.ErrType},
		{"\x03\xff\xff\xff\xff\x0f\x7e\x01\x7f\x01\x40", 10, api.ErrType},
		{"\x02\xff\xff\xff\xff\x0f\x7e\xff\xff\xff\xff\x0f\x40", 12, api.ErrType},
		{"\x03\xff\xff\xff\xff\x0f\x7e\xff\xff\xff\xff\x0f\x7e\x80\x80\x80\x80\x10", 13, api.ErrLeb},
		{"\x03\xff\xff\xff\xff\x0f\x7e\xff\xff\xff\xff\x0f\x7e\x01", 14, api.ErrEnd},
		{"\x03\xff\xff\xff\xff\x0f\x7e\xff\xff\xff\xff\x0f\x7e", 13, api.ErrEnd},
		{"\x02\x81\x08\x7f", 4, api.ErrEnd},
	} {
		expectInAll(t, x.s, nil, x.at, x.e)
	}
	for b := range 256 {
		s := "\x02\x02\x7f\x01" + string([]byte{byte(b)})
		if slices.Contains([]byte{api.I32, api.I64, api.F32, api.F64}, byte(b)) {
			expectInAll(t, s, []byte{api.I32, api.I32, byte(b)}, 5, api.OK)
		} else {
			expectInAll(t, s, nil, 4, api.ErrType)
		}
	}
}

// TestLocalsModel: groups of any numbers near the limits, against the chapter's words.
func TestLocalsModel(t *testing.T) {
	d := newDice()
	near := []uint64{0, 1, 2, 100, 511, 512, 1023, 1024, 1025, 1 << 20, 1 << 30, 1<<31 - 1, 1 << 31, 1<<32 - 1025, 1<<32 - 2, 1<<32 - 1, 1 << 32}
	types := append(times(5, "\x7f"), "\x7e", "\x7d", "\x7c", "\x40")
	told := map[api.Errno]int{}
	for range 20000 {
		n := d.below(6)
		s := d.count(n)
		few := len(near) - d.below(2)*10 // of half of the rows the small numbers alone
		for range n {
			s += lebOf(near[d.below(few)], 1+d.below(2)*d.below(5))
			s += types[d.below(len(types))]
		}
		if d.below(8) == 0 {
			s = s[:len(s)-1]
		}
		want, e := localsOf(s)
		told[e]++
		c := scan.New([]byte(s))
		if got := Locals(c); string(got) != string(want) || c.Err() != e {
			t.Fatalf("% x: % x %d, not % x %d", s, got, c.Err(), want, e)
		}
	}
	for _, e := range []api.Errno{api.OK, api.ErrLimit, api.ErrLocals, api.ErrType, api.ErrLeb, api.ErrEnd} {
		if told[e] < 100 {
			t.Error(e, told[e])
		}
	}
}

// localsOf: what Locals should answer, by the chapter's words.
func localsOf(s string) (list []byte, e api.Errno) {
	defer func() {
		if r := recover(); r != nil {
			list, e = nil, r.(api.Errno)
		}
	}()
	return (&model{s: s}).locals(), api.OK
}

// TestLocalsFailedAhead: of a cursor that has failed already nothing is read, and its failure stays.
func TestLocalsFailedAhead(t *testing.T) {
	for _, e := range []api.Errno{api.ErrNil, api.ErrArg, api.ErrLimit, api.ErrEnd, api.ErrLocals, api.Errno(-7), api.Errno(9999)} {
		for _, s := range []string{"", "\x00", "\x01\x02\x7f", "\x01\x81\x08\x7f", "\x02\xff\xff\xff\xff\x0f\x7f\x01\x7f", "\xff"} {
			for at := range len(s) + 1 {
				c := scan.New([]byte(s))
				c.Take(uint32(at))
				c.Fail(e)
				for range 2 {
					if l := Locals(c); len(l) != 0 || c.At() != at || c.Err() != e {
						t.Fatal(l, c.At(), c.Err())
					}
				}
			}
		}
	}
	// And behind its own failure.
	c := scan.New([]byte("\x01\x81\x08\x7f\x01\x01\x7f"))
	for range 3 {
		if l := Locals(c); len(l) != 0 || c.At() != 4 || c.Err() != api.ErrLimit || c.Byte() != 0 {
			t.Fatal(l, c.At(), c.Err())
		}
	}
}

// TestLocalsNoCursor: one that is nil, and one that New did not make, which has no bytes.
func TestLocalsNoCursor(t *testing.T) {
	if l := Locals(nil); len(l) != 0 {
		t.Error(l)
	}
	var c scan.Cursor
	if l := Locals(&c); len(l) != 0 || c.Err() != api.ErrEnd || c.At() != 0 {
		t.Error(l, c.Err(), c.At())
	}
}

// TestLocalsApart: what is answered is new memory each time, and the bytes stay as they are.
func TestLocalsApart(t *testing.T) {
	b := []byte("\x02\x02\x7f\x01\x7e\x01\x03\x7d")
	was := string(b)
	c := scan.New(b)
	one, two := Locals(c), Locals(c)
	three := Locals(scan.New(b))
	spoil(reflect.ValueOf(one))
	if string(two) != "\x7d\x7d\x7d" || string(three) != "\x7f\x7f\x7e" || string(b) != was || c.Err() != api.OK || c.Left() != 0 {
		t.Error(two, three, b)
	}
	for i := range b {
		b[i] = 0
	}
	if string(three) != "\x7f\x7f\x7e" {
		t.Error(three)
	}
}
