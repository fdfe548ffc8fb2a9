package lift_test

import (
	"bytes"
	"fmt"
	"testing"

	"crossgrain/api"
	"crossgrain/ir"
	"crossgrain/lift"
	"crossgrain/mem"
)

// ahead is what stands ahead of an instruction that stops: what it does is seen,
// and its flags too.
var ahead = []byte{0x4e, 0x95, 5, 1} // inc R6; alub or R5, 1

// P5.3: a stop leaves all as it was ahead of its instruction.
func TestStops(t *testing.T) {
	load := func(at uint32) api.Stop { return api.Stop{Kind: api.StopLoad, Arg: at} }
	store := func(at uint32) api.Stop { return api.Stop{Kind: api.StopStore, Arg: at} }
	for _, x := range []struct {
		what string
		code []byte
		r2   uint32
		r7   uint32
		stop api.Stop
	}{
		{"load of a byte", []byte{0xa0, 0x12, 0}, noneAt, 0, load(noneAt)},
		{"load of a byte that may only be written", []byte{0xa1, 0x12, 1}, writeAt, 0, load(writeAt + 1)},
		{"load of two bytes, at the second", []byte{0xa2, 0x12, 0}, dataAt + 767, 0, load(writeAt)},
		{"load of two bytes with sign, at the second", []byte{0xa3, 0x12, 0}, 65535, 0, load(65536)},
		{"load of four, at the first", []byte{0xa4, 0x12, 0}, 65536, 0, load(65536)},
		{"load of four, at the last", []byte{0xa4, 0x12, 0}, dataAt + 765, 0, load(writeAt)},
		{"load of four, across the end of memory", []byte{0xa4, 0x12, 0xff}, 65535, 0, load(65536)},
		{"load of four, across 2^32", []byte{0xa4, 0x12, 0xff}, 0, 0, load(0xffffffff)},
		{"load of D by itself", []byte{0xa4, 0x22, 0}, noneAt, 0, load(noneAt)},
		{"store of a byte", []byte{0xa5, 0x12, 0}, readAt, 0, store(readAt)},
		{"store of two bytes, at the second", []byte{0xa6, 0x12, 0}, dataAt + 511, 0, store(readAt)},
		{"store of four, at the first", []byte{0xa7, 0x12, 0}, noneAt, 0, store(noneAt)},
		{"store of four, at the last", []byte{0xa7, 0x12, 0}, dataAt + 509, 0, store(readAt)},
		{"store of four, across the end of memory", []byte{0xa7, 0x12, 0}, 65533, 0, store(65536)},
		{"store of four, across 2^32", []byte{0xa7, 0x12, 0}, 0xfffffffe, 0, store(0xfffffffe)},
		{"push", []byte{0x31}, 0, readAt + 8, store(readAt + 4)},
		{"push at a later byte", []byte{0x37}, 0, dataAt + 514, store(readAt)},
		{"push below 0", []byte{0x31}, 0, 2, store(0xfffffffe)},
		{"push across the end of memory", []byte{0x31}, 0, 65538, store(65536)},
		{"pushf", []byte{3}, 0, noneAt + 4, store(noneAt)},
		{"pushf at a later byte", []byte{3}, 0, dataAt + 513, store(readAt)},
		{"pop", []byte{0x39}, 0, noneAt, load(noneAt)},
		{"pop R7 at a later byte", []byte{0x3f}, 0, dataAt + 766, load(writeAt)},
		{"pop across the end of memory", []byte{0x39}, 0, 65534, load(65536)},
		{"popf", []byte{4}, 0, writeAt, load(writeAt)},
		{"popf at a later byte", []byte{4}, 0, dataAt + 767, load(writeAt)},
		{"call", []byte{8, 5, 0, 0, 0}, 0, readAt + 4, store(readAt)},
		{"call at a later byte", []byte{8, 5, 0, 0, 0}, 0, dataAt + 515, store(readAt)},
		{"call across the end of memory", []byte{8, 5, 0, 0, 0}, 0, 65539, store(65536)},
		{"callr", []byte{10, 2}, 9, readAt + 4, store(readAt)},
		{"callr R7 at a later byte", []byte{10, 7}, 9, dataAt + 515, store(readAt)},
		{"ret", []byte{2}, 0, noneAt, load(noneAt)},
		{"ret at a later byte", []byte{2}, 0, dataAt + 766, load(writeAt)},
		{"ret across the end of memory", []byte{2}, 0, 65533, load(65536)},
		{"jmpm", []byte{11, 2, 0}, noneAt, 0, load(noneAt)},
		{"jmpm at a later byte", []byte{11, 2, 1}, dataAt + 764, 0, load(writeAt)},
		{"xchg by its load", []byte{0x6b, 0x12, 0}, writeAt, 0, load(writeAt)},
		{"xchg by its store", []byte{0x6b, 0x12, 0}, readAt + 4, 0, store(readAt + 4)},
		{"xchg by its store at a later byte", []byte{0x6b, 0x12, 0}, dataAt + 510, 0, store(readAt)},
		{"xchg where neither may be", []byte{0x6b, 0x12, 0}, noneAt, 0, load(noneAt)},
		{"xchg where its load stops later than its store", []byte{0x6b, 0x12, 0}, dataAt + 766, 0, load(writeAt)},
		{"xadd by its load", []byte{0x6c, 0x12, 0}, 65534, 0, load(65536)},
		{"xadd by its store", []byte{0x6c, 0x12, 0}, readAt, 0, store(readAt)},
		{"cas by its load", []byte{0x6d, 0x12, 0}, 0xffffffff, 0, load(0xffffffff)},
		{"cas by its store", []byte{0x6d, 0x12, 0}, dataAt + 511, 0, store(readAt)},
		{"divu", []byte{0x7e, 0x12}, 0, 0, api.Stop{Kind: api.StopDivide}},
		{"remu", []byte{0x7f, 0x12}, 0, 0, api.Stop{Kind: api.StopDivide}},
		{"divu by 0", []byte{0x8e, 1, 0, 0, 0, 0}, 9, 0, api.Stop{Kind: api.StopDivide}},
		{"remu by 0", []byte{0x9f, 1, 0}, 9, 0, api.Stop{Kind: api.StopDivide}},
		{"divu of 0 by itself", []byte{0x7e, 0x22}, 0, 0, api.Stop{Kind: api.StopDivide}},
		{"brk", []byte{1}, 0, 0, api.Stop{Kind: api.StopBrk}},
	} {
		stopsAt(t, x.what+" as the first", x.code, 0, x.r2, x.r7, x.stop)
		stopsAt(t, x.what+" behind others", append(bytes.Clone(ahead), x.code...), 2, x.r2, x.r7, x.stop)
	}
}

// stopsAt: code of which so many instructions stand ahead of the one that stops.
func stopsAt(t *testing.T, what string, code []byte, n int, r2, r7 uint32, stop api.Stop) {
	t.Helper()
	code = append(code, 0x4e, 0x4e)
	c := odd()
	c[2], c[7] = r2, r7
	c[api.SlotK], c[api.SlotA], c[api.SlotB] = api.FSub, 0, 1 // flags 6
	s := ir.State(c, codeAt)
	if n > 0 {
		s.R[6]++
		s.R[5] |= 1
		s.F, s.PC = 0, codeAt+uint32(len(ahead))
	}
	m := laid(codeAt, code)
	for page := range api.Pages {
		m.Mark(page, true)
	}
	was := copied(m)
	b := lifts(t, what, m, codeAt, 64)
	d, x, _ := ir.Eval(b, c, m)
	if want := (api.Exit{Stop: stop, PC: s.PC, N: n}); x != want {
		t.Errorf("P5.3 %s: left by %+v, want %+v", what, x, want)
	}
	if got := ir.State(d, x.PC); got != s {
		t.Errorf("P5.3 %s: the state is %x, want %x", what, got, s)
	}
	if *m != *was {
		t.Errorf("P5.3 %s: memory is changed", what)
	}
	agrees(t, what, laid(codeAt, code), codeAt, 64, c)
}

// storing: each instruction that stores: where R2 leads to, or, if it pushes,
// four bytes below R7.
func storing() map[string][]byte {
	return map[string][]byte{
		"store of a byte": {0xa5, 0x12, 0}, "store of two": {0xa6, 0x12, 0}, "store of four": {0xa7, 0x12, 0},
		"xchg": {0x6b, 0x12, 0}, "xadd": {0x6c, 0x12, 0}, "cas": {0x6d, 0x12, 0},
		"push": {0x31}, "pushf": {3},
	}
}

// watching: memory with code in which pages are watched, beside those of the block.
func watching(at int, code []byte, pages ...int) *mem.Memory {
	m := laid(at, code)
	for _, page := range pages {
		m.Mark(page, true)
	}
	return m
}

// P5.4: where a page is told, the block is left right behind the store; else it goes on.
func TestLeftBehindStores(t *testing.T) {
	for what, one := range storing() {
		for _, x := range []struct {
			at    uint32
			pages []int
			left  bool
		}{
			{codeAt + 200, nil, true},               // the block's own page
			{codeAt, nil, true},                     // its first byte
			{codeAt + 256, nil, false},              // the page behind it, which is not watched
			{dataAt, nil, false},                    // another that is not
			{dataAt, []int{dataPage}, true},         // one that is
			{dataAt, []int{dataPage + 1, 0}, false}, // others are
			{lastAt + 252, []int{lastPage}, true},
		} {
			code := append(append([]byte{0x4e}, one...), 0x4e, 0x4e) // inc R6 ahead of it, and twice behind it
			c := odd()
			c[2], c[7] = x.at, x.at+4
			want := api.Exit{PC: codeAt + uint32(len(code)), N: 4}
			if x.left {
				want = api.Exit{PC: want.PC - 2, N: 2}
			}
			d, e := agrees(t, what, watching(codeAt, code, x.pages...), codeAt, 4, c)
			if e != want || d[6]-c[6] != uint32(want.N)-1 {
				t.Errorf("P5.4 %s at %x: left by %+v with R6 %x, want %+v", what, x.at, e, d[6], want)
			}
		}
	}
}

// A store into the instruction behind it: the block is left ahead of that, for
// the new one counts.
func TestStoreIntoNext(t *testing.T) {
	for what, one := range storing() {
		code := append(bytes.Clone(one), 0x4e, 0x4e, 0x4e, 0x4e)
		c := odd()
		c[2] = codeAt + uint32(len(one))
		c[7] = c[2] + 4
		_, e := agrees(t, what, watching(codeAt, code), codeAt, 64, c)
		if want := (api.Exit{PC: codeAt + uint32(len(one)), N: 1}); e != want {
			t.Errorf("P5.4 %s into the next instruction: %+v, want %+v", what, e, want)
		}
	}
}

// A page is told by the last instruction of a block: that is its end all the same.
func TestStoreAtTheEnd(t *testing.T) {
	for what, one := range storing() {
		c := odd()
		c[2], c[7] = codeAt+100, codeAt+104
		want := api.Exit{PC: codeAt + 1 + uint32(len(one)), N: 2}
		code := append([]byte{0}, one...)
		if _, e := agrees(t, what+" by most", watching(codeAt, code), codeAt, 2, c); e != want {
			t.Errorf("P5.4 %s at the end: %+v, want %+v", what, e, want)
		}
		if _, e := agrees(t, what+" ahead of ff", watching(codeAt, append(code, 0xff)), codeAt, 9, c); e != want {
			t.Errorf("P5.4 %s ahead of ff: %+v, want %+v", what, e, want)
		}
	}
}

// What ends a block by pushing goes where it leads, told or not.
func TestCallsOntoTheBlock(t *testing.T) {
	for _, x := range []struct {
		what string
		code []byte
		to   uint32
	}{
		{"call", []byte{0, 8, 0x10, 0, 0, 0}, codeAt + 0x16},
		{"call back", []byte{0, 8, 0xfa, 0xff, 0xff, 0xff}, codeAt},
		{"callr", []byte{0, 10, 2}, dataAt + 5},
		{"callr R7", []byte{0, 10, 7}, codeAt + 6},
	} {
		c := odd()
		c[2], c[7] = dataAt+5, codeAt+6
		m := laid(codeAt, x.code)
		b := lift.Block(m, codeAt, 9)
		watchBytes(m, b)
		d, e, _ := ir.Eval(b, c, m)
		if e != (api.Exit{PC: x.to, N: 2}) || d[7] != codeAt+2 || !m.Touched() {
			t.Errorf("P5.4 %s onto the block: %+v, R7 %x", x.what, e, d[7])
		}
		agrees(t, x.what, watching(codeAt, x.code), codeAt, 9, c)
	}
}

// Only what stores asks whether a page is told: a page that is told ahead of
// the block does not leave it behind anything else.
func TestNotLeftBehindOthers(t *testing.T) {
	eachIns(func(x api.Ins) {
		byNone := (x.Op == api.AluI || x.Op == api.AluB) && x.O >= api.Divu && x.Imm == 0
		if stores(x.Op) || endsBlock(x.Op) || byNone || x.Imm > 1 {
			return
		}
		code := append(bytesOf(t, x), 0x4e)
		m := laid(codeAt, code)
		m.Mark(0, true)
		m.Poke(0, []byte{0})
		var c api.Context
		for i := range 8 {
			c[i] = dataAt + 0x40
		}
		if _, e, _ := ir.Eval(lift.Block(m, codeAt, 2), c, m); e != (api.Exit{PC: codeAt + uint32(len(code)), N: 2}) {
			t.Fatalf("P5.4 %+v: left by %+v", x, e)
		}
	})
}

// A block in two pages: both are its own.
func TestBlockInTwoPages(t *testing.T) {
	const at = codeAt + 250
	for what, one := range storing() {
		for _, to := range []uint32{codeAt, codeAt + 254, codeAt + 256, codeAt + 500} {
			code := append(bytes.Clone(one), bytes.Repeat([]byte{0x4e}, 20)...)
			c := odd()
			c[2], c[7] = to, to+4
			_, e := agrees(t, fmt.Sprintf("%s at %x", what, to), watching(at, code), at, 15, c)
			if want := (api.Exit{PC: at + uint32(len(one)), N: 1}); e != want {
				t.Errorf("P5.4 %s at %x of a block in two pages: %+v, want %+v", what, to, e, want)
			}
		}
	}
}

// Of several stores the block is left behind the first that is told.
func TestFirstThatIsTold(t *testing.T) {
	code := []byte{0xa7, 0x12, 0, 0x31, 0xa5, 0x13, 0, 0x6b, 0x13, 0, 0x4e}
	c := odd()
	c[2], c[3], c[7] = dataAt, lastAt, dataAt+0x40
	for _, x := range []struct {
		pages []int
		n     int
		pc    uint32
	}{{nil, 5, 11}, {[]int{lastPage}, 3, 7}, {[]int{dataPage}, 1, 3}, {[]int{dataPage, lastPage}, 1, 3}} {
		if _, e := agrees(t, "stores", watching(codeAt, code, x.pages...), codeAt, 5, c); e != (api.Exit{PC: codeAt + x.pc, N: x.n}) {
			t.Errorf("P5.4 stores, pages %v are watched: left by %+v", x.pages, e)
		}
	}
}
