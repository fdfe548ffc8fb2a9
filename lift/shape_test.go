package lift_test

import (
	"math"
	"slices"
	"testing"

	"crossgrain/api"
	"crossgrain/ir"
	"crossgrain/lift"
	"crossgrain/mem"
)

// has: a block of code with that Count and Bytes, and how it is left from a
// context of zeroes.
func has(t *testing.T, what string, m *mem.Memory, pc uint32, most, count, bytes int, want api.Exit) {
	t.Helper()
	b := lifts(t, what, m, pc, most)
	if b.Count != count || b.Bytes != bytes {
		t.Errorf("P5.1 %s: Count %d, Bytes %d, want %d, %d", what, b.Count, b.Bytes, count, bytes)
	}
	if _, x, _ := ir.Eval(b, api.Context{}, m); x != want {
		t.Errorf("P5.1 %s: left by %+v, want %+v", what, x, want)
	}
}

func TestExamples(t *testing.T) {
	at := func(code ...byte) *mem.Memory {
		m := mem.New()
		m.Poke(0, code)
		m.Protect(0, api.Run)
		return m
	}
	has(t, "jmp8 fe", at(6, 0xfe), 0, 9, 1, 2, api.Exit{N: 1})
	has(t, "a page that may not be run", mem.New(), 0, 9, 0, 0, api.Exit{Stop: api.Stop{Kind: api.StopFetch}})
	has(t, "nop, ff", at(0, 0xff), 0, 9, 1, 1, api.Exit{PC: 1, N: 1})
	has(t, "inc, sys 3", at(0x48, 5, 3), 0, 9, 2, 3, api.Exit{Stop: api.Stop{Kind: api.StopSys, Arg: 3}, PC: 3, N: 2})
	has(t, "most 1", at(0x48, 0x48), 0, 1, 1, 1, api.Exit{PC: 1, N: 1})
}

func TestMost(t *testing.T) {
	m := laid(codeAt, make([]byte, 200))
	for _, x := range []struct{ most, count int }{
		{math.MinInt, 1}, {-1 << 32, 1}, {-64, 1}, {-1, 1}, {0, 1}, {1, 1}, {2, 2}, {31, 31}, {63, 63},
		{64, 64}, {65, 64}, {66, 64}, {128, 64}, {1 << 32, 64}, {1<<32 + 1, 64}, {math.MaxInt, 64},
	} {
		has(t, "nops", m, codeAt, x.most, x.count, x.count, api.Exit{PC: codeAt + uint32(x.count), N: x.count})
	}
}

// Behind which instructions a block ends: nops lie behind each.
func TestEndsByInstruction(t *testing.T) {
	for op := range 32 {
		code := append([]byte{0}, firstOf(t, op)...)
		code = append(code, make([]byte, 10)...)
		b := lift.Block(laid(codeAt, code), codeAt, 5)
		want := 5
		if op == 1 || op == 2 || op >= 5 && op <= 13 {
			want = 2
		}
		if b.Count != want || b.Bytes != len(firstOf(t, op))+want-1 {
			t.Errorf("P5.1 nop, Op %d, nops: Count %d, Bytes %d, want %d", op, b.Count, b.Bytes, want)
		}
	}
}

func firstOf(t *testing.T, op int) []byte { return bytesOf(t, api.Ins{Op: op}) }

func TestEndsAheadOfStops(t *testing.T) {
	movi := []byte{0x40, 1, 2, 3, 4}
	ends := func(pc uint32, n int) api.Exit { return api.Exit{PC: pc, N: n} }
	for _, x := range []struct {
		what         string
		at           int
		code         []byte
		count, bytes int
	}{
		{"no such byte", codeAt, []byte{0, 0x48, 0x0c}, 2, 2},
		{"no such byte behind a long one", codeAt, append(slices.Clone(movi), 0xa8), 1, 5},
		{"no such register", codeAt, []byte{0, 0x69, 0x80}, 1, 1},
		{"no such register S", codeAt, []byte{0, 0x69, 0x08}, 1, 1},
		{"the next page may not be run", codeAt + 510, []byte{0, 0}, 2, 2},
		{"its second byte may not be run", codeAt + 510, []byte{0, 6}, 1, 1},
		{"its last byte may not be run", codeAt + 507, append([]byte{0}, movi[:4]...), 1, 1},
		{"the end of memory", lastAt + 254, []byte{0x48, 0x48}, 2, 2},
		{"across the end of memory", lastAt + 253, []byte{0x48, 0x90, 0}, 1, 1},
		{"across the end of memory, of six bytes", lastAt + 250, []byte{0x48, 0x80, 0, 1, 1, 1}, 1, 1},
		{"a page that may be run, no other", runAt + 255, []byte{0x48}, 1, 1},
	} {
		has(t, x.what, laid(x.at, x.code), uint32(x.at), 9, x.count, x.bytes, ends(uint32(x.at+x.bytes), x.count))
	}
	// What can be fetched in whole is in the block, across pages too.
	has(t, "across a page", laid(codeAt+252, append(slices.Clone(movi), 1)), codeAt+252, 9, 2, 6,
		api.Exit{Stop: api.Stop{Kind: api.StopBrk}, PC: codeAt + 257, N: 1})
	has(t, "up to the end of memory", laid(lastAt+251, movi), lastAt+251, 9, 1, 5, ends(api.MemSize, 1))
	has(t, "a jump at the end of memory", laid(lastAt+254, []byte{6, 0x7f}), lastAt+254, 9, 1, 2, ends(api.MemSize+0x7f, 1))
	has(t, "a jump back from the start", laid(codeAt, []byte{7, 0xfb, 0xfd, 0xff, 0xff}), codeAt, 9, 1, 5, ends(0xfffffe00+codeAt, 1))
}

func TestFirstCannotBe(t *testing.T) {
	for _, x := range []struct {
		what string
		pc   uint32
		code []byte // at pc, if that lies in memory
		stop api.Stop
	}{
		{"a page without rights", noneAt + 3, []byte{0}, api.Stop{Kind: api.StopFetch, Arg: noneAt + 3}},
		{"a page that may be read", readAt, []byte{0}, api.Stop{Kind: api.StopFetch, Arg: readAt}},
		{"a page that may be read and written", dataAt, []byte{0}, api.Stop{Kind: api.StopFetch, Arg: dataAt}},
		{"the second byte", codeAt + 511, []byte{6}, api.Stop{Kind: api.StopFetch, Arg: codeAt + 512}},
		{"the fifth byte", codeAt + 508, []byte{0x40, 1, 1, 1, 1}, api.Stop{Kind: api.StopFetch, Arg: codeAt + 512}},
		{"the second byte of what has no such register", codeAt + 511, []byte{0x69, 0x88}, api.Stop{Kind: api.StopFetch, Arg: codeAt + 512}},
		{"the end of memory", api.MemSize, nil, api.Stop{Kind: api.StopFetch, Arg: api.MemSize}},
		{"across the end of memory", api.MemSize - 1, []byte{0x40}, api.Stop{Kind: api.StopFetch, Arg: api.MemSize}},
		{"across the end of memory by four", api.MemSize - 2, []byte{0x80, 0}, api.Stop{Kind: api.StopFetch, Arg: api.MemSize}},
		{"beyond the memory", api.MemSize + codeAt, nil, api.Stop{Kind: api.StopFetch, Arg: api.MemSize + codeAt}},
		{"above 2^31", 0x80000000 + codeAt, nil, api.Stop{Kind: api.StopFetch, Arg: 0x80000000 + codeAt}},
		{"near 2^32", 0xfffffffb, nil, api.Stop{Kind: api.StopFetch, Arg: 0xfffffffb}},
		{"the last place", 0xffffffff, nil, api.Stop{Kind: api.StopFetch, Arg: 0xffffffff}},
		{"no such byte", codeAt, []byte{0xff}, api.Stop{Kind: api.StopOp}},
		{"no such byte at the end of memory", api.MemSize - 1, []byte{0x0c}, api.Stop{Kind: api.StopOp}},
		{"no such register", codeAt, []byte{0x09, 0x08}, api.Stop{Kind: api.StopOp}},
		{"no such registers", codeAt, []byte{0x70, 0x81}, api.Stop{Kind: api.StopOp}},
		{"no such registers, far up", lastAt, []byte{0xa0, 0xff, 0}, api.Stop{Kind: api.StopOp}},
	} {
		m := laid(0, nil)
		m.Poke(int(x.pc), x.code)
		for _, most := range []int{-5, 1, 64, 1000} {
			has(t, x.what, m, x.pc, most, 0, 0, api.Exit{Stop: x.stop, PC: x.pc})
		}
		c := odd()
		if d, _, _ := ir.Eval(lift.Block(m, x.pc, 9), c, m); d != c {
			t.Errorf("P5.3 %s: the context is %x, was %x", x.what, d, c)
		}
	}
}

// odd: slots that are all unlike.
func odd() api.Context {
	var c api.Context
	for i := range c {
		c[i] = uint32(i+1) * 0x01010101
	}
	return c
}

func TestNoMemory(t *testing.T) {
	for _, pc := range []uint32{0, 7, 65535, 65536, 0x80000000, 0xffffffff} {
		for _, most := range []int{math.MinInt, 0, 1, 64, math.MaxInt} {
			b := lift.Block(nil, pc, most)
			if err, _ := ir.Check(b); err != api.OK || b.PC != pc || b.Count != 0 || b.Bytes != 0 {
				t.Errorf("P5.1 without memory at %x: %+v, Check %d", pc, b, err)
			}
			_, x, _ := ir.Eval(b, odd(), mem.New())
			if want := (api.Exit{Stop: api.Stop{Kind: api.StopFetch, Arg: pc}, PC: pc}); x != want {
				t.Errorf("P5.1 without memory: left by %+v, want %+v", x, want)
			}
		}
	}
}

// The longest blocks have room: of each instruction as many as there may be.
func TestLongest(t *testing.T) {
	eachIns(func(x api.Ins) {
		if x.D > 1 || x.S > 1 {
			return
		}
		one := bytesOf(t, x)
		var code []byte
		for range 70 {
			code = append(code, one...)
		}
		m := laid(codeAt, code)
		b := lifts(t, "a row of one instruction", m, codeAt, 64)
		if !endsBlock(x.Op) && (b.Count != 64 || b.Bytes != 64*len(one)) {
			t.Errorf("P5.1 a row of %+v: Count %d, Bytes %d", x, b.Count, b.Bytes)
		}
	})
}

func endsBlock(op int) bool { return op == 1 || op == 2 || op >= 5 && op <= 13 }

// P0: an answer is new, and hangs on nothing but memory, place and most.
func TestAnswersAreNew(t *testing.T) {
	m := laid(codeAt, []byte{0x48, 0x31, 0x6d, 0x12, 4, 6, 0})
	a, b := lift.Block(m, codeAt, 9), lift.Block(m, codeAt, 9)
	if !slices.Equal(a.Ops, b.Ops) || len(a.Ops) == 0 {
		t.Fatalf("P0 two blocks of one memory are unlike")
	}
	want := slices.Clone(b.Ops)
	clear(a.Ops[:cap(a.Ops)])
	if !slices.Equal(b.Ops, want) || !slices.Equal(lift.Block(m, codeAt, 9).Ops, want) {
		t.Errorf("P0 a block that is written into changes another")
	}
	m.Poke(codeAt, []byte{0xff})
	if !slices.Equal(b.Ops, want) {
		t.Errorf("P0 a block hangs on memory still")
	}
}

// P5.2: rights and marks stay as they are, and what is told is told still.
func TestMemoryStays(t *testing.T) {
	m := laid(codeAt, []byte{0x31, 0x03, 0x6d, 0x12, 4, 6, 0})
	rights := func() []int {
		var r []int
		for page := range api.Pages {
			r = append(r, m.Rights(page))
		}
		return r
	}
	was := rights()
	m.Mark(codePage, true)
	m.Mark(dataPage, true)
	lift.Block(m, codeAt, 9)
	if m.Touched() || !slices.Equal(rights(), was) {
		t.Errorf("P5.2 rights or marks are changed")
	}
	m.Poke(dataAt, []byte{1})
	lift.Block(m, codeAt, 9)
	lift.Block(m, noneAt, 9)
	if !slices.Equal(m.Changed(), []int{dataPage}) {
		t.Errorf("P5.2 what was told is told no longer")
	}
	m.Poke(codeAt, []byte{1})
	m.Poke(dataAt, []byte{1})
	m.Poke(readAt, []byte{1})
	if !slices.Equal(m.Changed(), []int{codePage, dataPage}) {
		t.Errorf("P5.2 other pages are watched than were")
	}
}
