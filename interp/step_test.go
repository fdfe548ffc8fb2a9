package interp_test

import (
	"bytes"
	"math"
	"math/rand"
	"slices"
	"testing"

	"crossgrain/api"
	"crossgrain/guest"
	"crossgrain/interp"
	"crossgrain/mem"
)

// Pages of the memory that most tests use: what each may be used for.
const (
	codePage  = 1 // run
	dataPage  = 2 // read, write; the page behind it too
	readPage  = 4 // read
	writePage = 5 // write
	nonePage  = 6
	lastPage  = 255 // read, write, run
)

const (
	codeAt  = codePage * api.PageSize
	dataAt  = dataPage * api.PageSize
	readAt  = readPage * api.PageSize
	writeAt = writePage * api.PageSize
	noneAt  = nonePage * api.PageSize
	lastAt  = lastPage * api.PageSize
)

var going = api.Stop{}

// bytesOf: instructions, one behind the other.
func bytesOf(t *testing.T, xs ...api.Ins) []byte {
	t.Helper()
	var b []byte
	for _, x := range xs {
		one, err := guest.Encode(x)
		if err != api.OK {
			t.Fatalf("%+v has no bytes", x)
		}
		b = append(b, one...)
	}
	return b
}

// laid: a memory with code at codeAt; every page is watched.
func laid(code []byte) *mem.Memory {
	m := mem.New()
	m.Poke(codeAt, code)
	m.Protect(codePage, api.Run)
	m.Protect(dataPage, api.Read|api.Write)
	m.Protect(dataPage+1, api.Read|api.Write)
	m.Protect(readPage, api.Read)
	m.Protect(writePage, api.Write)
	m.Protect(lastPage, api.Read|api.Write|api.Run)
	for page := range api.Pages {
		m.Mark(page, true)
	}
	return m
}

// state: registers that are all unlike, the code's place, flags with other bits beside them.
func state(f uint32) api.State {
	s := api.State{PC: codeAt, F: f | 0xabcdef60}
	for i := range s.R {
		s.R[i] = uint32(i+1) * 0x01010101
	}
	s.R[7] = dataAt + 0x80
	return s
}

func four(at int, x uint32) (int, []byte) {
	return at, []byte{byte(x), byte(x >> 8), byte(x >> 16), byte(x >> 24)}
}

func all(m *mem.Memory) []byte {
	b, _ := m.Peek(0, api.MemSize)
	return b
}

// stops: a step stops so, with all as it was but F's other bits.
func stops(t *testing.T, what string, m *mem.Memory, s api.State, want api.Stop) {
	t.Helper()
	was := all(m)
	m.Changed()
	u, stop := interp.Step(m, s)
	if stop != want {
		t.Errorf("%s: %+v, want %+v", what, stop, want)
	}
	s.F %= 16
	if u != s {
		t.Errorf("%s: the state is %+v, was %+v", what, u, s)
	}
	if !bytes.Equal(all(m), was) || m.Touched() {
		t.Errorf("%s: memory is changed", what)
	}
}

// goes: a step goes on to this state, and changes just these bytes and pages.
func goes(t *testing.T, what string, m *mem.Memory, s, want api.State, at int, b []byte, pages ...int) {
	t.Helper()
	wantAll := all(m)
	copy(wantAll[at:], b)
	m.Changed()
	u, stop := interp.Step(m, s)
	if stop != going {
		t.Errorf("%s: %+v", what, stop)
	}
	if u != want {
		t.Errorf("%s:\nstate %+v\nwant  %+v", what, u, want)
	}
	if !bytes.Equal(all(m), wantAll) {
		got, _ := m.Peek(at, len(b))
		t.Errorf("%s: at %x are %x, want %x, or others are changed", what, at, got, b)
	}
	if got := m.Changed(); !slices.Equal(got, pages) {
		t.Errorf("%s: pages %v are changed, want %v", what, got, pages)
	}
}

// registers: a step of one instruction that changes the state alone.
func registers(t *testing.T, what string, x api.Ins, s api.State, change func(s *api.State)) {
	t.Helper()
	b := bytesOf(t, x)
	want := s
	want.F %= 16
	want.PC += uint32(len(b))
	change(&want)
	goes(t, what, laid(b), s, want, 0, nil)
}

// P3.4: what reads and writes registers, flags and PC alone.
func TestStepRegisters(t *testing.T) {
	for _, x := range []struct {
		what   string
		x      api.Ins
		f      uint32
		change func(s *api.State)
	}{
		{"nop", api.Ins{Op: api.Nop}, 5, func(s *api.State) {}},
		{"movi", api.Ins{Op: api.MovI, D: 3, Imm: 0x89abcdef}, 15, func(s *api.State) { s.R[3] = 0x89abcdef }},
		{"movi R7", api.Ins{Op: api.MovI, D: 7, Imm: 5}, 0, func(s *api.State) { s.R[7] = 5 }},
		{"mov", api.Ins{Op: api.Mov, D: 3, S: 5}, 15, func(s *api.State) { s.R[3] = 0x06060606 }},
		{"mov to itself", api.Ins{Op: api.Mov, D: 3, S: 3}, 9, func(s *api.State) {}},
		{"lea", api.Ins{Op: api.Lea, D: 1, S: 7, Imm: 0xfffffffc}, 15, func(s *api.State) { s.R[1] = dataAt + 0x7c }},
		{"lea of itself", api.Ins{Op: api.Lea, D: 7, S: 7, Imm: 0x7f}, 0, func(s *api.State) { s.R[7] = dataAt + 0xff }},
		{"not", api.Ins{Op: api.Not, D: 2}, 15, func(s *api.State) { s.R[2] = 0xfcfcfcfc }},
		{"inc", api.Ins{Op: api.Inc, D: 2}, 15, func(s *api.State) { s.R[2] = 0x03030304; s.F = c }},
		{"inc without carry", api.Ins{Op: api.Inc, D: 2}, 11, func(s *api.State) { s.R[2] = 0x03030304; s.F = 0 }},
		{"dec", api.Ins{Op: api.Dec, D: 2}, 15, func(s *api.State) { s.R[2] = 0x03030302; s.F = c }},
		{"neg", api.Ins{Op: api.Neg, D: 0}, 0, func(s *api.State) { s.R[0] = 0xfefefeff; s.F = n | c }},
		{"set that holds", api.Ins{Op: api.Set, D: 6, O: 4}, 1, func(s *api.State) { s.R[6] = 1 }},
		{"set that does not hold", api.Ins{Op: api.Set, D: 6, O: 5}, 1, func(s *api.State) { s.R[6] = 0 }},
		{"set always", api.Ins{Op: api.Set, D: 7, O: 14}, 0, func(s *api.State) { s.R[7] = 1 }},
		{"alu", api.Ins{Op: api.Alu, D: 1, S: 0, O: api.Sub}, 15, func(s *api.State) { s.R[1] = 0x01010101; s.F = 0 }},
		{"alu of one register", api.Ins{Op: api.Alu, D: 1, S: 1, O: api.Add}, 15, func(s *api.State) { s.R[1] = 0x04040404; s.F = 0 }},
		{"alu sub of itself", api.Ins{Op: api.Alu, D: 7, S: 7, O: api.Sub}, 14, func(s *api.State) { s.R[7] = 0; s.F = z }},
		{"alu cmp", api.Ins{Op: api.Alu, D: 0, S: 1, O: api.Cmp}, 0, func(s *api.State) { s.F = n | c }},
		{"alu adc", api.Ins{Op: api.Alu, D: 0, S: 1, O: api.Adc}, c, func(s *api.State) { s.R[0] = 0x03030304; s.F = 0 }},
		{"alui", api.Ins{Op: api.AluI, D: 1, O: api.Remu, Imm: 0x02020201}, 15, func(s *api.State) { s.R[1] = 1; s.F = 0 }},
		{"alub", api.Ins{Op: api.AluB, D: 1, O: api.And, Imm: 0xffffff80}, 15, func(s *api.State) { s.R[1] = 0x02020200; s.F = 0 }},
		{"alub shl by 0", api.Ins{Op: api.AluB, D: 1, O: api.Shl, Imm: 0x20}, 9, func(s *api.State) {}},
	} {
		registers(t, x.what, x.x, state(x.f), x.change)
	}
}

// P3.4: each O of alu, alui, alub is Reckon's; other flag bits ahead are of no matter.
func TestStepReckons(t *testing.T) {
	for o := range 16 {
		for _, f := range olds() {
			for _, b := range []uint32{1, 31, 0xffffffff, 0xffffff80, 0x7f} {
				s := state(f)
				s.R[3], s.R[4] = 0x80000003, b
				want, flags, _ := slowReckon(o, s.R[3], b, f)
				change := func(s *api.State) { s.R[3], s.F = want, flags }
				registers(t, "alu", api.Ins{Op: api.Alu, D: 3, S: 4, O: o}, s, change)
				registers(t, "alui", api.Ins{Op: api.AluI, D: 3, O: o, Imm: b}, s, change)
				registers(t, "alub", api.Ins{Op: api.AluB, D: 3, O: o, Imm: b}, s, change)
			}
		}
	}
}

// P3.4: jumps; what is next, or where a register or the memory leads; PC wraps round.
func TestStepJumps(t *testing.T) {
	for _, x := range []struct {
		what string
		x    api.Ins
		f    uint32
		pc   uint32
	}{
		{"jmp8", api.Ins{Op: api.Jmp8, Imm: 0x7f}, 0, codeAt + 2 + 0x7f},
		{"jmp8 to itself", api.Ins{Op: api.Jmp8, Imm: 0xfffffffe}, 15, codeAt},
		{"jmp", api.Ins{Op: api.Jmp, Imm: 0x1000}, 0, codeAt + 5 + 0x1000},
		{"jmp round", api.Ins{Op: api.Jmp, Imm: 0xffff0000}, 0, 0xffff0105},
		{"jmp far", api.Ins{Op: api.Jmp, Imm: 0xfffffefb}, 0, 0},
		{"jcc8 that holds", api.Ins{Op: api.Jcc8, O: 2, Imm: 0xffffff80}, c, codeAt + 2 - 0x80},
		{"jcc8 that does not hold", api.Ins{Op: api.Jcc8, O: 3, Imm: 0xffffff80}, c, codeAt + 2},
		{"jcc8 never", api.Ins{Op: api.Jcc8, O: 15, Imm: 9}, 15, codeAt + 2},
		{"jcc that holds", api.Ins{Op: api.Jcc, O: 12, Imm: 0x80000000}, v, 0x80000000 + codeAt + 5},
		{"jcc that does not hold", api.Ins{Op: api.Jcc, O: 13, Imm: 0x80000000}, v, codeAt + 5},
		{"jmpr", api.Ins{Op: api.JmpR, S: 4}, 6, 0x05050505},
		{"jmpr R7", api.Ins{Op: api.JmpR, S: 7}, 6, dataAt + 0x80},
	} {
		registers(t, x.what, x.x, state(x.f), func(s *api.State) { s.PC = x.pc })
	}
	for cond := range 16 {
		for f := range uint32(16) {
			to8, to := uint32(codeAt+2), uint32(codeAt+5)
			if slowHolds(cond, f) {
				to8, to = to8+0x22, to+0x11223344
			}
			registers(t, "jcc8", api.Ins{Op: api.Jcc8, O: cond, Imm: 0x22}, state(f), func(s *api.State) { s.PC = to8 })
			registers(t, "jcc", api.Ins{Op: api.Jcc, O: cond, Imm: 0x11223344}, state(f), func(s *api.State) { s.PC = to })
			registers(t, "set", api.Ins{Op: api.Set, O: cond, D: 2}, state(f), func(s *api.State) { s.R[2] = flag(slowHolds(cond, f), 1) })
		}
	}
	m := laid(bytesOf(t, api.Ins{Op: api.JmpM, S: 7, Imm: 0xfffffffc}))
	m.Poke(four(dataAt+0x7c, 0xfedcba98))
	want := state(3)
	want.F, want.PC = 3, 0xfedcba98
	goes(t, "jmpm", m, state(3), want, 0, nil)
}

// memory: a step of one instruction, with a number of four bytes at a place of the
// memory ahead, and one there then; the pages that are changed.
func memory(t *testing.T, what string, x api.Ins, s api.State, at int, before, after uint32, change func(s *api.State), pages ...int) {
	t.Helper()
	b := bytesOf(t, x)
	m := laid(b)
	m.Poke(four(at, before))
	want := s
	want.F %= 16
	want.PC += uint32(len(b))
	change(&want)
	at, there := four(at, after)
	goes(t, what, m, s, want, at, there, pages...)
}

// P3.4: the stack's instructions, R7 itself among them.
func TestStepStack(t *testing.T) {
	const top, below = dataAt + 0x80, dataAt + 0x7c
	down := func(s *api.State) { s.R[7] -= 4 }
	memory(t, "push", api.Ins{Op: api.Push, S: 2}, state(15), below, 9, 0x03030303, down, dataPage)
	memory(t, "push R7", api.Ins{Op: api.Push, S: 7}, state(15), below, 9, top, down, dataPage)
	memory(t, "pushf", api.Ins{Op: api.Pushf}, state(0x1d), below, 0xffffffff, 13, down, dataPage)
	memory(t, "call", api.Ins{Op: api.Call, Imm: 0xffffff00}, state(2), below, 9, codeAt+5, func(s *api.State) { s.R[7] -= 4; s.PC = 5 }, dataPage)
	memory(t, "call round", api.Ins{Op: api.Call, Imm: 0xfffffefa}, state(2), below, 9, codeAt+5, func(s *api.State) { s.R[7] -= 4; s.PC = 0xffffffff }, dataPage)
	memory(t, "callr", api.Ins{Op: api.CallR, S: 1}, state(2), below, 9, codeAt+2, func(s *api.State) { s.R[7] -= 4; s.PC = 0x02020202 }, dataPage)
	memory(t, "callr R7", api.Ins{Op: api.CallR, S: 7}, state(2), below, 9, codeAt+2, func(s *api.State) { s.R[7] -= 4; s.PC = top }, dataPage)
	memory(t, "pop", api.Ins{Op: api.Pop, D: 4}, state(15), top, 0xfedcba98, 0xfedcba98, func(s *api.State) { s.R[7] += 4; s.R[4] = 0xfedcba98 })
	memory(t, "pop R7", api.Ins{Op: api.Pop, D: 7}, state(15), top, 0xfedcba98, 0xfedcba98, func(s *api.State) { s.R[7] = 0xfedcba98 })
	memory(t, "popf", api.Ins{Op: api.Popf}, state(6), top, 0xfffffff9, 0xfffffff9, func(s *api.State) { s.R[7] += 4; s.F = 9 })
	memory(t, "ret", api.Ins{Op: api.Ret}, state(6), top, 0xfedcba98, 0xfedcba98, func(s *api.State) { s.R[7] += 4; s.PC = 0xfedcba98 })
}

// P3.4: pushes and pops at the ends of a page and of the memory.
func TestStepStackAtEnds(t *testing.T) {
	pushes := []api.Ins{{Op: api.Push, S: 2}, {Op: api.Push, S: 7}, {Op: api.Pushf}, {Op: api.Call, Imm: 8}, {Op: api.CallR, S: 2}}
	pops := []api.Ins{{Op: api.Pop, D: 2}, {Op: api.Pop, D: 7}, {Op: api.Popf}, {Op: api.Ret}}
	check := func(x api.Ins, kind int, r7 uint32, bad uint32) {
		t.Helper()
		s := state(0x19)
		s.R[7] = r7
		stops(t, "a stack's end", laid(bytesOf(t, x)), s, api.Stop{Kind: kind, Arg: bad})
	}
	for _, x := range pushes {
		for _, e := range []struct{ r7, bad uint32 }{
			{0, 0xfffffffc}, {1, 0xfffffffd}, {3, 0xffffffff}, {4, 0}, {api.MemSize + 1, api.MemSize}, {api.MemSize + 3, api.MemSize}, {api.MemSize + 4, api.MemSize}, {0x80000000, 0x7ffffffc}, {0xffffffff, 0xfffffffb},
			{dataAt, dataAt - 4}, {dataAt + 3, dataAt - 1}, {readAt + 1, readAt}, {readAt + 3, readAt}, {readAt + 4, readAt}, {noneAt + 2, noneAt},
		} {
			check(x, api.StopStore, e.r7, e.bad)
		}
		for _, r7 := range []uint32{dataAt + 4, dataAt + 0x100, dataAt + 0x102, dataAt + 0x200, lastAt + 4, api.MemSize} {
			s := state(0)
			s.R[7] = r7
			u, stop := interp.Step(laid(bytesOf(t, x)), s)
			if stop != going || u.R[7] != r7-4 {
				t.Errorf("%+v with R7 %x: R7 %x, %+v", x, r7, u.R[7], stop)
			}
		}
	}
	for _, x := range pops {
		for _, e := range []struct{ r7, bad uint32 }{
			{0, 0}, {api.MemSize - 1, api.MemSize}, {api.MemSize - 3, api.MemSize}, {api.MemSize, api.MemSize}, {0xfffffffd, 0xfffffffd}, {0xffffffff, 0xffffffff},
			{dataAt - 1, dataAt - 1}, {writeAt - 1, writeAt}, {writeAt - 3, writeAt}, {writeAt, writeAt}, {codeAt, codeAt},
		} {
			check(x, api.StopLoad, e.r7, e.bad)
		}
	}
	for _, r7 := range []uint32{dataAt, dataAt + 0xfe, dataAt + 0x1fc, dataAt + 0x1fe, readAt + 0xfc, api.MemSize - 4} {
		s := state(0)
		s.R[7] = r7
		if u, stop := interp.Step(laid(bytesOf(t, api.Ins{Op: api.Pop, D: 2})), s); stop != going || u.R[7] != r7+4 || u.R[2] != 0 {
			t.Errorf("pop with R7 %x: %+v, %+v", r7, u, stop)
		}
	}
}

// P3.4: load, of each O, with and without sign; the address wraps round; one register as D and S.
func TestStepLoads(t *testing.T) {
	const at = dataAt + 0x10
	for _, x := range []struct {
		o            int
		before, want uint32
	}{
		{0, 0xffffff80, 0x80}, {0, 0x11111101, 1}, {1, 0x80, 0xffffff80}, {1, 0xffffff7f, 0x7f}, {1, 0xff, 0xffffffff},
		{2, 0xffff8001, 0x8001}, {3, 0x8001, 0xffff8001}, {3, 0xffff7fff, 0x7fff}, {4, 0x89abcdef, 0x89abcdef}, {4, 0x80, 0x80},
	} {
		for _, by := range []uint32{0, 1, 0x7f, 0xffffff80, 0xffffffff} {
			s := state(15)
			s.R[5] = at - by
			memory(t, "load", api.Ins{Op: api.Load, O: x.o, D: 4, S: 5, Imm: by}, s, at, x.before, x.before, func(s *api.State) { s.R[4] = x.want })
			memory(t, "load of itself", api.Ins{Op: api.Load, O: x.o, D: 5, S: 5, Imm: by}, s, at, x.before, x.before, func(s *api.State) { s.R[5] = x.want })
		}
	}
	for o, width := range []int{1, 1, 2, 2, 4} {
		load := bytesOf(t, api.Ins{Op: api.Load, O: o, D: 4, S: 5})
		for _, first := range []uint32{codeAt, noneAt, api.MemSize, 0x80000000, 0xffffffff, writeAt} {
			s := state(7)
			s.R[5] = first
			stops(t, "load", laid(load), s, api.Stop{Kind: api.StopLoad, Arg: first})
		}
		for _, end := range []uint32{writeAt, api.MemSize} {
			for into := 1; into < width; into++ {
				s := state(7)
				s.R[5] = end - uint32(width) + uint32(into)
				stops(t, "load over an end", laid(load), s, api.Stop{Kind: api.StopLoad, Arg: end})
			}
		}
	}
}

// P3.4: store, of each O; across the end of a page of which the next may not be written nothing is stored.
func TestStepStores(t *testing.T) {
	const at = dataAt + 0xfe
	none := func(s *api.State) {}
	s := state(15)
	s.R[5] = at - 5
	memory(t, "store of a byte", api.Ins{Op: api.Store, O: 0, D: 4, S: 5, Imm: 5}, s, at, 0xaaaaaaaa, 0xaaaaaa05, none, dataPage)
	memory(t, "store of two", api.Ins{Op: api.Store, O: 1, D: 4, S: 5, Imm: 5}, s, at, 0xaaaaaaaa, 0xaaaa0505, none, dataPage)
	memory(t, "store of four", api.Ins{Op: api.Store, O: 2, D: 4, S: 5, Imm: 5}, s, at, 0xaaaaaaaa, 0x05050505, none, dataPage, dataPage+1)
	s.R[5] = at + 0x80
	memory(t, "store of its own place", api.Ins{Op: api.Store, O: 2, D: 5, S: 5, Imm: 0xffffff80}, s, at, 9, at+0x80, none, dataPage, dataPage+1)
	s.R[5] = 0xffffffff
	s.R[4] = 7
	stops(t, "store round", laid(bytesOf(t, api.Ins{Op: api.Store, O: 1, D: 4, S: 5})), s, api.Stop{Kind: api.StopStore, Arg: 0xffffffff})
	for o, width := range []int{1, 2, 4} {
		store := bytesOf(t, api.Ins{Op: api.Store, O: o, D: 4, S: 5})
		for _, first := range []uint32{codeAt, noneAt, api.MemSize, 0x80000000, 0xffffffff, readAt} {
			s := state(7)
			s.R[5] = first
			stops(t, "store", laid(store), s, api.Stop{Kind: api.StopStore, Arg: first})
		}
		for _, end := range []uint32{readAt, noneAt, api.MemSize} {
			for into := 1; into < width; into++ {
				s := state(7)
				s.R[5] = end - uint32(width) + uint32(into)
				stops(t, "store over an end", laid(store), s, api.Stop{Kind: api.StopStore, Arg: end})
			}
		}
	}
}

// P3.4: what loads and then stores, with D and S one register, R0 or R7 too.
func TestStepSwaps(t *testing.T) {
	const at = dataAt + 0xfe
	s := state(15)
	s.R[5], s.R[6] = at-3, 0xfffffffe
	two := []int{dataPage, dataPage + 1}
	memory(t, "xchg", api.Ins{Op: api.Xchg, D: 6, S: 5, Imm: 3}, s, at, 7, 0xfffffffe, func(s *api.State) { s.R[6] = 7 }, two...)
	memory(t, "xchg with its place", api.Ins{Op: api.Xchg, D: 5, S: 5, Imm: 3}, s, at, 7, at-3, func(s *api.State) { s.R[5] = 7 }, two...)
	memory(t, "xchg of the same", api.Ins{Op: api.Xchg, D: 6, S: 5, Imm: 3}, s, at, 0xfffffffe, 0xfffffffe, func(s *api.State) {}, two...)
	memory(t, "xadd", api.Ins{Op: api.Xadd, D: 6, S: 5, Imm: 3}, s, at, 7, 5, func(s *api.State) { s.R[6] = 7; s.F = c }, two...)
	memory(t, "xadd to 0", api.Ins{Op: api.Xadd, D: 6, S: 5, Imm: 3}, s, at, 2, 0, func(s *api.State) { s.R[6] = 2; s.F = z | c }, two...)
	memory(t, "xadd past", api.Ins{Op: api.Xadd, D: 6, S: 5, Imm: 3}, s, at, 0x80000000, 0x7ffffffe, func(s *api.State) { s.R[6] = 0x80000000; s.F = c | v }, two...)
	memory(t, "xadd of its place", api.Ins{Op: api.Xadd, D: 5, S: 5, Imm: 3}, s, at, 7, at+4, func(s *api.State) { s.R[5] = 7; s.F = 0 }, two...)
	memory(t, "cas that fits", api.Ins{Op: api.Cas, D: 6, S: 5, Imm: 3}, s, at, 0x01010101, 0xfffffffe, func(s *api.State) { s.F = z }, two...)
	memory(t, "cas that does not", api.Ins{Op: api.Cas, D: 6, S: 5, Imm: 3}, s, at, 0x01010102, 0x01010102, func(s *api.State) { s.R[0] = 0x01010102; s.F = n | c }, two...)
	memory(t, "cas that is less", api.Ins{Op: api.Cas, D: 6, S: 5, Imm: 3}, s, at, 1, 1, func(s *api.State) { s.R[0] = 1; s.F = 0 }, two...)
	memory(t, "cas past", api.Ins{Op: api.Cas, D: 6, S: 5, Imm: 3}, s, at, 0x80000001, 0x80000001, func(s *api.State) { s.R[0] = 0x80000001; s.F = n | c | v }, two...)
	memory(t, "cas of R0", api.Ins{Op: api.Cas, D: 0, S: 5, Imm: 3}, s, at, 9, 9, func(s *api.State) { s.R[0] = 9; s.F = 0 }, two...)
	memory(t, "cas of R0 that fits", api.Ins{Op: api.Cas, D: 0, S: 5, Imm: 3}, s, at, 0x01010101, 0x01010101, func(s *api.State) { s.F = z }, two...)
	s.R[0] = at + 1
	memory(t, "cas at R0", api.Ins{Op: api.Cas, D: 6, S: 0, Imm: 0xffffffff}, s, at, at+1, 0xfffffffe, func(s *api.State) { s.F = z }, two...)
	memory(t, "cas at R0, of R0", api.Ins{Op: api.Cas, D: 0, S: 0, Imm: 0xffffffff}, s, at, 5, 5, func(s *api.State) { s.R[0] = 5; s.F = 0 }, two...)
	s.R[7] = at
	memory(t, "xchg R7 with its place", api.Ins{Op: api.Xchg, D: 7, S: 7}, s, at, 5, at, func(s *api.State) { s.R[7] = 5 }, two...)
}

// P3.4: they stop by the load first, then by the store; a cas that does not fit by the store too.
func TestStepSwapStops(t *testing.T) {
	for _, op := range []int{api.Xchg, api.Xadd, api.Cas} {
		for _, x := range []struct {
			at, there uint32
			stop      api.Stop
		}{
			{readAt, 0, api.Stop{Kind: api.StopStore, Arg: readAt}},
			{readAt + 9, 0x01010101, api.Stop{Kind: api.StopStore, Arg: readAt + 9}},
			{readAt - 1, 0, api.Stop{Kind: api.StopStore, Arg: readAt}},
			{readAt - 3, 0x01010101, api.Stop{Kind: api.StopStore, Arg: readAt}},
			{writeAt, 0, api.Stop{Kind: api.StopLoad, Arg: writeAt}},
			{writeAt - 1, 0, api.Stop{Kind: api.StopLoad, Arg: writeAt}},
			{codeAt, 0, api.Stop{Kind: api.StopLoad, Arg: codeAt}},
			{noneAt, 0, api.Stop{Kind: api.StopLoad, Arg: noneAt}},
			{api.MemSize - 3, 0, api.Stop{Kind: api.StopLoad, Arg: api.MemSize}},
			{api.MemSize, 0, api.Stop{Kind: api.StopLoad, Arg: api.MemSize}},
			{0xfffffffe, 0, api.Stop{Kind: api.StopLoad, Arg: 0xfffffffe}},
		} {
			m := laid(nil)
			m.Poke(four(int(x.at), x.there))
			m.Poke(codeAt, bytesOf(t, api.Ins{Op: op, D: 6, S: 5, Imm: 0xfffffff0}))
			s := state(0x1b)
			s.R[5] = x.at + 16
			stops(t, "a swap", m, s, x.stop)
		}
	}
	for _, at := range []uint32{codeAt, writeAt, writeAt - 3, noneAt, api.MemSize - 1, 0xffffffff} {
		bad := max(at, (at+3)/api.PageSize*api.PageSize)
		if at == 0xffffffff {
			bad = at
		}
		s := state(0x1b)
		s.R[5] = at
		stops(t, "jmpm", laid(bytesOf(t, api.Ins{Op: api.JmpM, S: 5})), s, api.Stop{Kind: api.StopLoad, Arg: bad})
	}
}

// P3.4: brk, sys, and division by 0.
func TestStepStops(t *testing.T) {
	stops(t, "brk", laid(bytesOf(t, api.Ins{Op: api.Brk})), state(0x1f), api.Stop{Kind: api.StopBrk})
	for _, o := range []int{api.Divu, api.Remu} {
		s := state(0x15)
		s.R[4] = 0
		stops(t, "alu by 0", laid(bytesOf(t, api.Ins{Op: api.Alu, D: 3, S: 4, O: o})), s, api.Stop{Kind: api.StopDivide})
		stops(t, "alu of itself by 0", laid(bytesOf(t, api.Ins{Op: api.Alu, D: 4, S: 4, O: o})), s, api.Stop{Kind: api.StopDivide})
		stops(t, "alui by 0", laid(bytesOf(t, api.Ins{Op: api.AluI, D: 3, O: o})), s, api.Stop{Kind: api.StopDivide})
		stops(t, "alub by 0", laid(bytesOf(t, api.Ins{Op: api.AluB, D: 3, O: o})), s, api.Stop{Kind: api.StopDivide})
	}
	for _, which := range []uint32{0, 1, 0x80, 0xff} {
		m := laid(bytesOf(t, api.Ins{Op: api.Sys, Imm: which}))
		want := state(0x1d)
		want.F, want.PC = 13, codeAt+2
		s, stop := interp.Step(m, state(0x1d))
		if s != want || stop != (api.Stop{Kind: api.StopSys, Arg: which}) {
			t.Errorf("sys %x: %+v, %+v", which, s, stop)
		}
	}
}

// P3.4: first bytes that begin no instruction; even where the next byte may not be fetched.
func TestStepOfNoInstruction(t *testing.T) {
	for first := range 256 {
		m := laid(nil)
		m.Poke(codeAt+255, []byte{byte(first)})
		s := state(0x1d)
		s.PC = codeAt + 255
		switch size := guest.Size(byte(first)); {
		case size == 0:
			stops(t, "no instruction", m, s, api.Stop{Kind: api.StopOp})
		case size > 1:
			stops(t, "too few that may be run", m, s, api.Stop{Kind: api.StopFetch, Arg: codeAt + 256})
		}
	}
	for _, b := range [][]byte{{9, 8}, {9, 0x10}, {10, 8}, {11, 8, 0}, {0x68, 8}, {0x69, 0x80}, {0x69, 8}, {0x6a, 0x80, 0}, {0x70, 0x81}, {0x80, 8, 0, 0, 0, 0}, {0x90, 0x10, 0}, {0xa0, 8, 0}, {0xa7, 0x80, 0}} {
		stops(t, "a register that is none", laid(b), state(0x12), api.Stop{Kind: api.StopOp})
		m := laid(nil)
		m.Poke(codeAt+255, b)
		s := state(0x12)
		s.PC = codeAt + 255
		stops(t, "a register that is none, and may not be fetched", m, s, api.Stop{Kind: api.StopFetch, Arg: codeAt + 256})
	}
}

// P3.4: an instruction whose bytes reach into a page that may not be run, or past the memory's end.
func TestStepFetches(t *testing.T) {
	for _, x := range []api.Ins{{Op: api.Mov, D: 1, S: 2}, {Op: api.Lea, D: 1, S: 2}, {Op: api.MovI, D: 1}, {Op: api.AluI, D: 1}, {Op: api.Sys}, {Op: api.Jmp8, Imm: 1}} {
		b := bytesOf(t, x)
		for inside := 1; inside <= len(b); inside++ {
			for _, end := range []int{codeAt + 256, api.MemSize} {
				m := laid(nil)
				m.Protect(codePage+1, api.Read|api.Write)
				at := end - inside
				m.Poke(at, b[:inside])
				if end < api.MemSize {
					m.Poke(at, b)
				}
				s := state(0x10)
				s.PC = uint32(at)
				if inside < len(b) {
					stops(t, "bytes past the end", m, s, api.Stop{Kind: api.StopFetch, Arg: uint32(end)})
				} else if _, stop := interp.Step(m, s); stop.Kind == api.StopFetch {
					t.Errorf("%+v up to the end: %+v", x, stop)
				}
			}
		}
	}
	for _, pc := range []uint32{0, dataAt, readAt, writeAt, noneAt, api.MemSize, api.MemSize + 1, 0x80000000, 0xffffffff} {
		s := state(0xf0)
		s.PC = pc
		stops(t, "a place that may not be run", laid(nil), s, api.Stop{Kind: api.StopFetch, Arg: pc})
	}
	s := state(0)
	s.PC = api.MemSize - 1
	want := s
	want.F, want.PC = 0, api.MemSize
	goes(t, "nop as the last byte", laid(nil), s, want, 0, nil)
	stops(t, "behind the last byte", laid(nil), want, api.Stop{Kind: api.StopFetch, Arg: api.MemSize})
	m := laid(nil)
	m.Protect(codePage+1, api.Run)
	m.Poke(codeAt+254, bytesOf(t, api.Ins{Op: api.MovI, D: 1, Imm: 0x11223344}))
	s = state(0)
	s.PC = codeAt + 254
	want = s
	want.F, want.PC, want.R[1] = 0, codeAt+259, 0x11223344
	goes(t, "over two pages", m, s, want, 0, nil)
}

func TestStepOfNoMemory(t *testing.T) {
	s := state(0x19)
	u, stop := interp.Step(nil, s)
	w, last, done := interp.Run(nil, s, 9)
	s.F = 9
	if u != s || stop != (api.Stop{Kind: api.StopFetch, Arg: codeAt}) || w != s || last != stop || done != 0 {
		t.Errorf("%+v, %+v; %+v, %+v, %d", u, stop, w, last, done)
	}
}

// chanceMemory: some rights, bytes by chance of which many are instructions; the slow one is the same.
func chanceMemory(chance *rand.Rand) (*mem.Memory, *slow) {
	m, w := mem.New(), &slow{changed: map[int]bool{}}
	for at := 0; at < api.MemSize; {
		b := make([]byte, 8)
		chance.Read(b)
		if chance.Intn(64) != 0 {
			b[0] = byte(chance.Intn(0xa8))
			b[1] &= 0x77
		}
		b = b[:max(1, guest.Size(b[0]))]
		b = b[:min(len(b), api.MemSize-at)]
		m.Poke(at, b)
		copy(w.bytes[at:], b)
		at += len(b)
	}
	for page := range api.Pages {
		rights := 7
		if chance.Intn(4) == 0 {
			rights = chance.Intn(8)
		}
		m.Protect(page, rights)
		m.Mark(page, true)
		w.rights[page] = rights
	}
	return m, w
}

// chancePlace: near the end of a page, of the memory or of the numbers.
func chancePlace(chance *rand.Rand) uint32 {
	switch chance.Intn(8) {
	case 0:
		return uint32(chance.Intn(16) - 8)
	case 1:
		return uint32(api.MemSize + chance.Intn(16) - 8)
	case 2, 3:
		return uint32(chance.Intn(api.Pages)*api.PageSize + chance.Intn(16) - 8)
	case 4:
		return chance.Uint32()
	}
	return uint32(chance.Intn(api.MemSize))
}

// P3.4, P3.5: steps of all sorts against the slow machine: state, stop, bytes, and the pages that are changed.
func TestStepsByChance(t *testing.T) {
	chance := rand.New(rand.NewSource(3))
	kinds, ops := map[int]int{}, map[int]int{}
	for range 30 {
		m, w := chanceMemory(chance)
		for range 4000 {
			s := api.State{PC: chancePlace(chance), F: chance.Uint32()}
			for i := range s.R {
				s.R[i] = chancePlace(chance)
			}
			if b, err := m.Peek(int(s.PC), 1); err == api.OK && guest.Size(b[0]) > 0 {
				ops[int(b[0])]++
			}
			w.s = s
			w.step()
			u, stop := interp.Step(m, s)
			kinds[stop.Kind]++
			if u != w.s || stop != w.stop {
				b, _ := m.Peek(int(s.PC), 6)
				t.Fatalf("%x of %+v:\n%+v, %+v\nwant\n%+v, %+v", b, s, u, stop, w.s, w.stop)
			}
			for _, page := range m.Changed() {
				if !w.changed[page] {
					t.Fatalf("page %d is changed", page)
				}
				delete(w.changed, page)
			}
			if len(w.changed) > 0 {
				t.Fatalf("pages %v are not changed", w.changed)
			}
		}
		if !bytes.Equal(all(m), w.bytes[:]) {
			t.Fatal("other bytes")
		}
	}
	for kind := api.Going; kind <= api.StopDivide; kind++ {
		if kinds[kind] == 0 {
			t.Errorf("no step was stopped by %d", kind)
		}
	}
	for first := range 256 {
		if guest.Size(byte(first)) > 0 && ops[first] == 0 {
			t.Errorf("no step began with %x", first)
		}
	}
}

// P3.5: runs by chance against the slow machine.
func TestRunsByChance(t *testing.T) {
	chance := rand.New(rand.NewSource(4))
	for range 20 {
		m, w := chanceMemory(chance)
		for range 200 {
			s := api.State{PC: uint32(chance.Intn(api.MemSize)), F: chance.Uint32()}
			for i := range s.R {
				s.R[i] = chancePlace(chance)
			}
			most := chance.Intn(60) - 5
			w.s, w.stop = s, going
			w.s.F %= 16
			want := 0
			for i := 0; i < most && w.stop == going; i++ {
				w.step()
				if w.stop.Kind == api.Going || w.stop.Kind == api.StopSys {
					want++
				}
			}
			u, stop, done := interp.Run(m, s, most)
			if u != w.s || stop != w.stop || done != want {
				t.Fatalf("Run(%+v, %d) =\n%+v, %+v, %d\nwant\n%+v, %+v, %d", s, most, u, stop, done, w.s, w.stop, want)
			}
		}
		if !bytes.Equal(all(m), w.bytes[:]) {
			t.Fatal("other bytes")
		}
	}
}

// P3.5: how many steps are done, by what stops them.
func TestRun(t *testing.T) {
	movi, nop := api.Ins{Op: api.MovI, D: 1, Imm: 7}, api.Ins{Op: api.Nop}
	for _, x := range []struct {
		what string
		code []byte
		n    int
		pc   uint32
		stop api.Stop
		done int
	}{
		{"none of none", nil, 0, 0, going, 0},
		{"none below", bytesOf(t, api.Ins{Op: api.Brk}), -1, 0, going, 0},
		{"none far below", bytesOf(t, api.Ins{Op: api.Brk}), math.MinInt, 0, going, 0},
		{"none of what may not be", []byte{0xff}, 0, 0, going, 0},
		{"one", bytesOf(t, movi, nop), 1, 5, going, 1},
		{"two", bytesOf(t, movi, nop, api.Ins{Op: api.Brk}), 2, 6, going, 2},
		{"brk", bytesOf(t, movi, nop, api.Ins{Op: api.Brk}), 3, 6, api.Stop{Kind: api.StopBrk}, 2},
		{"brk at once", bytesOf(t, api.Ins{Op: api.Brk}), math.MaxInt, 0, api.Stop{Kind: api.StopBrk}, 0},
		{"ahead of sys", bytesOf(t, movi, api.Ins{Op: api.Sys, Imm: 9}, nop), 1, 5, going, 1},
		{"sys as the last", bytesOf(t, movi, api.Ins{Op: api.Sys, Imm: 9}, nop), 2, 7, api.Stop{Kind: api.StopSys, Arg: 9}, 2},
		{"sys with more left", bytesOf(t, movi, api.Ins{Op: api.Sys, Imm: 9}, nop), 50, 7, api.Stop{Kind: api.StopSys, Arg: 9}, 2},
		{"sys alone", bytesOf(t, api.Ins{Op: api.Sys}), 1, 2, api.Stop{Kind: api.StopSys}, 1},
		{"no instruction", append(bytesOf(t, movi, nop), 0xff), 9, 6, api.Stop{Kind: api.StopOp}, 2},
		{"a load", bytesOf(t, nop, movi, api.Ins{Op: api.Load, O: 4, D: 1, S: 0}), 9, 6, api.Stop{Kind: api.StopLoad, Arg: 0x01010101}, 2},
		{"by 0", bytesOf(t, nop, api.Ins{Op: api.AluB, O: api.Divu}), 9, 1, api.Stop{Kind: api.StopDivide}, 1},
		{"out of the page", bytesOf(t, api.Ins{Op: api.Jmp8, Imm: 0x7f}, nop), 1000, 256, api.Stop{Kind: api.StopFetch, Arg: codeAt + 256}, 128},
	} {
		s, stop, done := interp.Run(laid(x.code), state(0x1a), x.n)
		if s.PC != codeAt+x.pc || stop != x.stop || done != x.done || s.F != 10 {
			t.Errorf("%s: PC %x, F %x, %+v, %d", x.what, s.PC, s.F, stop, done)
		}
	}
}

// The chapter's program, and some of the whole's examples.
func TestRunPrograms(t *testing.T) {
	m := laid(bytesOf(t, api.Ins{Op: api.MovI, D: 0, Imm: 5}, api.Ins{Op: api.AluB, O: api.Cmp, D: 0, Imm: 7}, api.Ins{Op: api.Jcc8, O: 2, Imm: 0x20}))
	if s, stop, done := interp.Run(m, state(0), 3); s.PC != codeAt+10+0x20 || stop != going || done != 3 || s.R[0] != 5 || s.F != n|c {
		t.Errorf("5 is below 7: %+v, %+v, %d", s, stop, done)
	}
	m = laid(bytesOf(t, api.Ins{Op: api.MovI, D: 2, Imm: 1000}, api.Ins{Op: api.Inc, D: 1}, api.Ins{Op: api.Dec, D: 2}, api.Ins{Op: api.Jcc8, O: 5, Imm: 0xfffffffc}, api.Ins{Op: api.Sys, Imm: 3}))
	s := state(0)
	s.R[1] = 0
	if s, stop, done := interp.Run(m, s, 5000); s.R[1] != 1000 || s.R[2] != 0 || stop != (api.Stop{Kind: api.StopSys, Arg: 3}) || done != 3002 || s.F != z {
		t.Errorf("a loop: %+v, %+v, %d", s, stop, done)
	}
	// A store into the number of the next instruction.
	m = laid(bytesOf(t, api.Ins{Op: api.Store, O: 2, D: 3, S: 4}, api.Ins{Op: api.MovI, D: 1, Imm: 7}, api.Ins{Op: api.Brk}))
	m.Protect(codePage, api.Run|api.Write)
	s = state(0)
	s.R[3], s.R[4] = 0x11223344, codeAt+4
	if s, stop, done := interp.Run(m, s, 9); s.R[1] != 0x11223344 || stop.Kind != api.StopBrk || done != 2 {
		t.Errorf("a store into code: %+v, %+v, %d", s, stop, done)
	}
	// call a hundred deep: dec R0; jcc8 is zero, over the call; call itself; inc R1; ret.
	m = laid(bytesOf(t, api.Ins{Op: api.Call, Imm: 1}, api.Ins{Op: api.Brk}, api.Ins{Op: api.Dec, D: 0}, api.Ins{Op: api.Jcc8, O: 4, Imm: 5}, api.Ins{Op: api.Call, Imm: 0xfffffff8}, api.Ins{Op: api.Inc, D: 1}, api.Ins{Op: api.Ret}))
	s = state(0)
	s.R[0], s.R[1], s.R[7] = 100, 0, dataAt+0x200
	if s, stop, done := interp.Run(m, s, 5000); s.R[1] != 100 || s.R[7] != dataAt+0x200 || s.PC != codeAt+5 || stop.Kind != api.StopBrk || done != 500 {
		t.Errorf("a hundred deep: %+v, %+v, %d", s, stop, done)
	}
}
