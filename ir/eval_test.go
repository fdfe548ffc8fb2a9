package ir_test

import (
	"bytes"
	"math/rand"
	"slices"
	"testing"

	"crossgrain/api"
	"crossgrain/interp"
	"crossgrain/ir"
	"crossgrain/mem"
)

// ends: numbers at which something turns over, and those beside them.
func ends() []uint32 {
	return []uint32{
		0, 1, 2, 3, 30, 31, 32, 33, 63, 64, 0x7f, 0x80, 0xff, 0x100, 0x7fff, 0x8000, 0xffff, 0x10000, 0x10001,
		0x7ffffffe, 0x7fffffff, 0x80000000, 0x80000001, 0xffff7fff, 0xffff8000, 0xffffff7f, 0xffffff80, 0xffffffe0, 0xfffffffe, 0xffffffff,
	}
}

// context: slots that are all unlike.
func context() api.Context {
	var c api.Context
	for i := range c {
		c[i] = uint32(i+1) * 0x01010101
	}
	return c
}

func evals(t *testing.T, b api.Block, c api.Context, m *mem.Memory) (api.Context, api.Exit) {
	t.Helper()
	d, x, err := ir.Eval(b, c, m)
	if err != api.OK {
		t.Fatalf("P4.2 Eval(%+v): error %d", b, err)
	}
	return d, x
}

// valueOf: what an operation gives of the numbers a, b, c.
func valueOf(t *testing.T, kind, w int, a, b, c uint32) uint32 {
	t.Helper()
	o := whole(kind, w)
	d, x := evals(t, blockOf(1, number(a), number(b), number(c), o, api.Op{Kind: api.OpPut, A: 3}, end), context(), mem.New())
	if x != (api.Exit{PC: 10, N: 1}) {
		t.Fatalf("P4.2 kind %d, W %d: left by %+v", kind, w, x)
	}
	want := context()
	want[0] = d[0]
	if d != want {
		t.Fatalf("P4.2 kind %d, W %d: other slots than that of the put: %x", kind, w, d)
	}
	return d[0]
}

func TestEvalExample(t *testing.T) {
	d, x, err := ir.Eval(blockOf(1, number(5), api.Op{Kind: api.OpPut}, end), api.Context{}, mem.New())
	if d != (api.Context{5}) || x != (api.Exit{PC: 10, N: 1}) || err != api.OK {
		t.Errorf("P4.2 %v, %+v, %d", d, x, err)
	}
}

func TestEvalBinByHand(t *testing.T) {
	for _, x := range []struct {
		w          int
		a, b, want uint32
	}{
		{api.BAdd, 3, 4, 7}, {api.BAdd, 0xffffffff, 1, 0}, {api.BAdd, 0xffffffff, 0xffffffff, 0xfffffffe},
		{api.BSub, 3, 4, 0xffffffff}, {api.BSub, 0x80000000, 1, 0x7fffffff}, {api.BSub, 0, 0x80000000, 0x80000000},
		{api.BAnd, 6, 3, 2}, {api.BOr, 6, 3, 7}, {api.BXor, 6, 3, 5}, {api.BXor, 0xffffffff, 0xffffffff, 0},
		{api.BShl, 3, 0, 3}, {api.BShl, 3, 31, 0x80000000}, {api.BShl, 3, 32, 3}, {api.BShl, 3, 33, 6}, {api.BShl, 3, 0xffffffff, 0x80000000},
		{api.BShr, 0xc0000000, 0, 0xc0000000}, {api.BShr, 0xc0000000, 31, 1}, {api.BShr, 0xc0000000, 32, 0xc0000000}, {api.BShr, 0xc0000000, 33, 0x60000000},
		{api.BSar, 0xc0000000, 0, 0xc0000000}, {api.BSar, 0xc0000000, 31, 0xffffffff}, {api.BSar, 0xc0000000, 32, 0xc0000000}, {api.BSar, 0xc0000000, 33, 0xe0000000}, {api.BSar, 0x7fffffff, 31, 0}, {api.BSar, 0x7fffffff, 30, 1},
		{api.BRol, 0x80000001, 0, 0x80000001}, {api.BRol, 0x80000001, 1, 3}, {api.BRol, 0x80000001, 31, 0xc0000000}, {api.BRol, 0x80000001, 32, 0x80000001}, {api.BRol, 0x80000001, 33, 3},
		{api.BMul, 6, 7, 42}, {api.BMul, 0x10000, 0x10000, 0}, {api.BMul, 0xffffffff, 0xffffffff, 1}, {api.BMul, 0x80000000, 3, 0x80000000},
		{api.BMulhu, 6, 7, 0}, {api.BMulhu, 0x10000, 0x10000, 1}, {api.BMulhu, 0x10000, 0xffff, 0}, {api.BMulhu, 0xffffffff, 0xffffffff, 0xfffffffe}, {api.BMulhu, 0x80000000, 0xffffffff, 0x7fffffff},
		{api.BDivu, 7, 2, 3}, {api.BDivu, 0xffffffff, 2, 0x7fffffff}, {api.BDivu, 0x80000000, 0xffffffff, 0}, {api.BDivu, 7, 0, 0xffffffff}, {api.BDivu, 0, 0, 0xffffffff},
		{api.BRemu, 7, 4, 3}, {api.BRemu, 0xfffffffe, 0xffffffff, 0xfffffffe}, {api.BRemu, 7, 0, 7}, {api.BRemu, 0, 0, 0}, {api.BRemu, 0xffffffff, 0, 0xffffffff},
		{api.BEq, 7, 7, 1}, {api.BEq, 7, 8, 0}, {api.BEq, 0, 0x80000000, 0},
		{api.BLtu, 1, 0x80000000, 1}, {api.BLtu, 0x80000000, 1, 0}, {api.BLtu, 7, 7, 0}, {api.BLtu, 7, 8, 1},
		{api.BLts, 1, 0x80000000, 0}, {api.BLts, 0x80000000, 1, 1}, {api.BLts, 7, 7, 0}, {api.BLts, 0x80000000, 0x7fffffff, 1}, {api.BLts, 0xffffffff, 0, 1},
	} {
		if got := valueOf(t, api.OpBin, x.w, x.a, x.b, 0); got != x.want {
			t.Errorf("P4.2 bin %d of %x, %x: %x, want %x", x.w, x.a, x.b, got, x.want)
		}
	}
}

func TestEvalUnByHand(t *testing.T) {
	for _, x := range []struct {
		w       int
		a, want uint32
	}{
		{api.UNot, 0, 0xffffffff}, {api.UNot, 0x0f0f0f0f, 0xf0f0f0f0},
		{api.UNeg, 0, 0}, {api.UNeg, 1, 0xffffffff}, {api.UNeg, 0x80000000, 0x80000000}, {api.UNeg, 0xffffffff, 1},
		{api.US8, 0x17f, 0x7f}, {api.US8, 0x180, 0xffffff80}, {api.US8, 0xffffff00, 0}, {api.US8, 0xff, 0xffffffff},
		{api.US16, 0x17fff, 0x7fff}, {api.US16, 0x18000, 0xffff8000}, {api.US16, 0xffff0000, 0}, {api.US16, 0x80, 0x80},
		{api.UU8, 0x1ff, 0xff}, {api.UU8, 0xffffff00, 0}, {api.UU16, 0x1ffff, 0xffff}, {api.UU16, 0xffff0000, 0},
		{api.UNil, 0, 1}, {api.UNil, 1, 0}, {api.UNil, 0x80000000, 0}, {api.UNil, 0xffffffff, 0},
	} {
		if got := valueOf(t, api.OpUn, x.w, x.a, 0, 0); got != x.want {
			t.Errorf("P4.2 un %d of %x: %x, want %x", x.w, x.a, got, x.want)
		}
	}
}

// Each W of bin, un, flags and cond at all ends.
func TestEvalEachW(t *testing.T) {
	same := func(kind, w int, a, b, c, want uint32) {
		if got := valueOf(t, kind, w, a, b, c); got != want {
			t.Fatalf("P4.2 kind %d, W %d of %x, %x, %x: %x, want %x", kind, w, a, b, c, got, want)
		}
	}
	for _, a := range ends() {
		for w := range 7 {
			same(api.OpUn, w, a, 9, 9, slowUn(w, a))
		}
		for w := range 16 {
			same(api.OpCond, w, a, 9, 9, one(interp.Holds(w, a)))
		}
		for i, b := range ends() {
			for w := range 16 {
				same(api.OpBin, w, a, b, 9, slowBin(w, a, b))
			}
			for w := range 13 {
				same(api.OpFlags, w, a, b, uint32(i), interp.Flags(w, a, b, uint32(i)))
			}
		}
	}
}

func TestEvalFlagsAndConditionsByHand(t *testing.T) {
	for _, x := range []struct {
		kind, w       int
		a, b, c, want uint32
	}{
		{api.OpFlags, api.FOld, 1, 2, 0x19, 9}, {api.OpFlags, api.FAdd, 0xffffffff, 1, 0, 5}, {api.OpFlags, api.FAdc, 0xffffffff, 0, 4, 5}, {api.OpFlags, api.FSub, 0, 1, 0, 6}, {api.OpFlags, api.FSub, 1, 0, 0, 0},
		{api.OpFlags, api.FShl, 0x80000001, 1, 0, 4}, {api.OpFlags, api.FShl, 1, 32, 0xfa, 10}, {api.OpFlags, api.FInc, 0xffffffff, 0, 4, 5}, {api.OpFlags, api.FDec, 0x80000000, 0, 4, 12},
		{api.OpCond, 0, 8, 0, 0, 1}, {api.OpCond, 0, 7, 0, 0, 0}, {api.OpCond, 1, 7, 0, 0, 1}, {api.OpCond, 14, 0, 0, 0, 1}, {api.OpCond, 15, 15, 0, 0, 0}, {api.OpCond, 4, 0xf1, 0, 0, 1}, {api.OpCond, 4, 0xf0, 0, 0, 0},
		{api.OpSel, 0, 1, 6, 7, 6}, {api.OpSel, 0, 0, 6, 7, 7}, {api.OpSel, 0, 0x80000000, 6, 7, 6}, {api.OpSel, 0, 0xffffffff, 6, 7, 6},
	} {
		if got := valueOf(t, x.kind, x.w, x.a, x.b, x.c); got != x.want {
			t.Errorf("P4.2 kind %d, W %d of %x, %x, %x: %x, want %x", x.kind, x.w, x.a, x.b, x.c, got, x.want)
		}
	}
}

// A value is that of its own operation: a put behind a get does not change it.
func TestEvalGetAndPut(t *testing.T) {
	for from := range api.Slots {
		for to := range api.Slots {
			b := blockOf(1,
				api.Op{Kind: api.OpGet, W: from},
				number(0xabcdef01),
				api.Op{Kind: api.OpPut, W: from, A: 1},
				api.Op{Kind: api.OpGet, W: from},
				api.Op{Kind: api.OpPut, W: to, A: 0},
				api.Op{Kind: api.OpBin, W: api.BSub, A: 3, B: 0},
				api.Op{Kind: api.OpGotoT, A: 5, N: 1})
			want := context()
			was := want[from]
			want[from] = 0xabcdef01
			want[to] = was
			if d, x := evals(t, b, context(), mem.New()); d != want || x != (api.Exit{PC: 0xabcdef01 - was, N: 1}) {
				t.Errorf("P4.2 slots %d, %d: %x, %+v, want %x", from, to, d, x, want)
			}
		}
	}
}

// pages: 0 and 1 may be read and written, 2 read, 3 written, the last read and written.
func pages() *mem.Memory {
	m := mem.New()
	for page, rights := range map[int]int{0: 3, 1: 3, 2: 1, 3: 2, 255: 3} {
		m.Protect(page, rights)
	}
	return m
}

func all(m *mem.Memory) []byte {
	b, _ := m.Peek(0, api.MemSize)
	return b
}

func TestEvalLoad(t *testing.T) {
	m := pages()
	m.Poke(254, []byte{0x7f, 0x80, 0xff, 0x01})
	m.Poke(65532, []byte{1, 2, 3, 0x84})
	load := func(w int, at uint32) (uint32, api.Exit) {
		d, x := evals(t, blockOf(3, number(at), api.Op{Kind: api.OpLoad, W: w, K: 44, N: 2}, api.Op{Kind: api.OpPut, W: 5, A: 1}, end), context(), m)
		return d[5], x
	}
	for _, x := range []struct {
		w        int
		at, want uint32
	}{
		{0, 254, 0x7f}, {0, 255, 0x80}, {1, 254, 0x7f}, {1, 255, 0xffffff80}, {1, 256, 0xffffffff}, {2, 254, 0x807f}, {2, 256, 0x01ff}, {3, 254, 0xffff807f}, {3, 256, 0x01ff}, {4, 254, 0x01ff807f},
		{0, 65535, 0x84}, {1, 65535, 0xffffff84}, {2, 65534, 0x8403}, {3, 65534, 0xffff8403}, {4, 65532, 0x84030201}, {4, 512, 0},
	} {
		if v, exit := load(x.w, x.at); v != x.want || exit != (api.Exit{PC: 10, N: 1}) {
			t.Errorf("P4.2 load %d at %x: %x, %+v, want %x", x.w, x.at, v, exit, x.want)
		}
	}
	for _, x := range []struct {
		w       int
		at, arg uint32
	}{
		{0, 768, 768}, {1, 1023, 1023}, {2, 767, 768}, {3, 767, 768}, {4, 765, 768}, {4, 768, 768}, {2, 65535, 65536}, {4, 65533, 65536}, {0, 65536, 65536}, {4, 0xffffffff, 0xffffffff}, {2, 0xffffffff, 0xffffffff},
	} {
		v, exit := load(x.w, x.at)
		if want := (api.Exit{Stop: api.Stop{Kind: api.StopLoad, Arg: x.arg}, PC: 44, N: 2}); exit != want || v != context()[5] {
			t.Errorf("P4.2 load %d at %x: %+v, want %+v; the put behind it: %x", x.w, x.at, exit, want, v)
		}
	}
}

func TestEvalStore(t *testing.T) {
	store := func(m *mem.Memory, w int, at uint32) api.Exit {
		d, x := evals(t, blockOf(3, number(at), number(0x81828384), api.Op{Kind: api.OpStore, W: w, A: 0, B: 1, K: 44, N: 2}, end), context(), m)
		if d != context() {
			t.Errorf("P4.2 store %d at %x: the context is another: %x", w, at, d)
		}
		return x
	}
	for w, n := range []int{1, 2, 4} {
		for _, at := range []int{0, 252, 253, 254, 255, 256, 768, 65536 - n} {
			m := pages()
			want := all(m)
			copy(want[at:at+n], []byte{0x84, 0x83, 0x82, 0x81})
			if x := store(m, w, uint32(at)); x != (api.Exit{PC: 10, N: 1}) || !bytes.Equal(all(m), want) {
				t.Errorf("P4.2 store %d at %x: %+v, or other bytes", w, at, x)
			}
		}
	}
	for _, x := range []struct {
		w       int
		at, arg uint32
	}{
		{0, 512, 512}, {1, 511, 512}, {2, 509, 512}, {2, 512, 512}, {2, 1022, 1024}, {1, 65535, 65536}, {2, 65533, 65536}, {0, 65536, 65536}, {2, 0xfffffffe, 0xfffffffe},
	} {
		m := pages()
		want := api.Exit{Stop: api.Stop{Kind: api.StopStore, Arg: x.arg}, PC: 44, N: 2}
		if exit := store(m, x.w, x.at); exit != want || slices.Max(all(m)) != 0 {
			t.Errorf("P4.2 store %d at %x: %+v, want %+v, and nothing stored", x.w, x.at, exit, want)
		}
	}
}

// Each way out, with N at 0 and at Count, and what was put ahead of it and what would be behind it.
func TestEvalLeaves(t *testing.T) {
	type way struct {
		what string
		o    api.Op // its A is 0: the number a
		a    uint32
		left bool
		stop api.Stop
		pc   uint32
	}
	ways := []way{
		{"if", api.Op{Kind: api.OpIf, K: 44}, 1, true, api.Stop{}, 44},
		{"if by the highest bit", api.Op{Kind: api.OpIf, K: 44}, 0x80000000, true, api.Stop{}, 44},
		{"if of 0", api.Op{Kind: api.OpIf, K: 44}, 0, false, api.Stop{}, 0},
		{"goto", api.Op{Kind: api.OpGoto, K: 0xffffffff}, 0, true, api.Stop{}, 0xffffffff},
		{"gotot", api.Op{Kind: api.OpGotoT}, 0x87654321, true, api.Stop{}, 0x87654321},
		{"load", api.Op{Kind: api.OpLoad, W: 4, K: 44}, 0x70000, true, api.Stop{Kind: api.StopLoad, Arg: 0x70000}, 44},
		{"store", api.Op{Kind: api.OpStore, W: 2, K: 44}, 0x70000, true, api.Stop{Kind: api.StopStore, Arg: 0x70000}, 44},
	}
	for w := 1; w <= 7; w++ {
		ways = append(ways,
			way{"stopif", api.Op{Kind: api.OpStopIf, W: w, K: 44}, 0xfffffffe, true, api.Stop{Kind: w}, 44},
			way{"stopif of 0", api.Op{Kind: api.OpStopIf, W: w, K: 44}, 0, false, api.Stop{}, 0})
		for _, arg := range []uint32{0, 1, 0x80000000, 0xffffffff} {
			ways = append(ways, way{"stop", api.Op{Kind: api.OpStop, W: w, B: int(arg), K: 44}, 0, true, api.Stop{Kind: w, Arg: arg}, 44})
		}
	}
	for _, x := range ways {
		for _, count := range []int{0, 1, 64} {
			for _, n := range []int{0, count} {
				x.o.N = n
				b := blockOf(count, number(x.a), number(8), api.Op{Kind: api.OpPut, W: 1, A: 1}, x.o)
				if !isEnd(x.o.Kind) {
					b.Ops = append(b.Ops, api.Op{Kind: api.OpPut, W: 2, A: 1}, api.Op{Kind: api.OpGoto, K: 99})
				}
				want, exit := context(), api.Exit{Stop: x.stop, PC: x.pc, N: n}
				want[1] = 8
				if !x.left {
					want[2], exit = 8, api.Exit{PC: 99}
				}
				if d, got := evals(t, b, context(), mem.New()); d != want || got != exit {
					t.Errorf("P4.2 %s, N %d of %d: %x, %+v, want %x, %+v", x.what, n, count, d, got, want, exit)
				}
			}
		}
	}
}

// watch leaves where a page is told by then: not ahead of the change, and not of a page that is not watched.
func TestEvalWatch(t *testing.T) {
	watch := func(k uint32) api.Op { return api.Op{Kind: api.OpWatch, K: k, N: 2} }
	b := blockOf(3, number(300), watch(1), api.Op{Kind: api.OpStore, W: 0}, watch(2), api.Op{Kind: api.OpPut}, end)
	for _, x := range []struct {
		what   string
		page   int // that is watched
		before bool
		want   api.Exit
		put    bool
	}{
		{"no page is watched", -1, false, api.Exit{PC: 10, N: 1}, true},
		{"another page is watched", 0, false, api.Exit{PC: 10, N: 1}, true},
		{"the page is watched", 1, false, api.Exit{PC: 2, N: 2}, false},
		{"the page is told already", 1, true, api.Exit{PC: 1, N: 2}, false},
		{"another page is told already", 0, true, api.Exit{PC: 1, N: 2}, false},
	} {
		m := pages()
		m.Mark(x.page, true)
		if x.before {
			m.Poke(x.page*api.PageSize, []byte{0})
		}
		want := context()
		if x.put {
			want[0] = 300
		}
		if d, exit := evals(t, b, context(), m); d != want || exit != x.want {
			t.Errorf("P4.2 %s: %x, %+v, want %+v", x.what, d, exit, x.want)
		}
		if stored := all(m)[300] != 0; stored != (x.want.PC != 1) {
			t.Errorf("P4.2 %s: stored: %v", x.what, stored)
		}
		if told := m.Touched(); told != (x.want.PC != 10) {
			t.Errorf("P4.2 %s: Touched is %v then", x.what, told)
		}
	}
	// A store of the bytes that are there already is a change too; one that stops is none.
	m := pages()
	m.Mark(2, true)
	if _, x := evals(t, blockOf(3, number(510), api.Op{Kind: api.OpStore, W: 2, K: 7}, watch(2), end), context(), m); x.Stop.Kind != api.StopStore || m.Touched() {
		t.Errorf("P4.2 a store that stops: %+v, Touched %v", x, m.Touched())
	}
}

// now is of the slots as they are at that place.
func TestEvalNow(t *testing.T) {
	now := func(to int) []api.Op { return []api.Op{{Kind: api.OpNow}, {Kind: api.OpPut, W: to}} }
	b := blockOf(1, now(0)...)
	b.Ops = append(b.Ops,
		number(api.FAdd), api.Op{Kind: api.OpPut, W: api.SlotK, A: 2}, api.Op{Kind: api.OpNow}, api.Op{Kind: api.OpPut, W: 1, A: 4},
		number(0xffffffff), api.Op{Kind: api.OpPut, W: api.SlotA, A: 6}, api.Op{Kind: api.OpNow}, api.Op{Kind: api.OpPut, W: 2, A: 8},
		number(13), api.Op{Kind: api.OpPut, W: api.SlotK, A: 10}, api.Op{Kind: api.OpNow}, api.Op{Kind: api.OpPut, W: 3, A: 12},
		number(0x80000003), api.Op{Kind: api.OpPut, W: api.SlotK, A: 14}, api.Op{Kind: api.OpNow}, api.Op{Kind: api.OpPut, W: 4, A: 16},
		number(0x2a), api.Op{Kind: api.OpPut, W: api.SlotO, A: 18}, api.Op{Kind: api.OpNow}, api.Op{Kind: api.OpPut, W: 5, A: 20},
		end)
	c := api.Context{8: api.FSub, 9: 0, 10: 1, 11: 0xfffffff9}
	want := api.Context{6, 0, 5, 9, 9, 10, 0, 0, 0x80000003, 0xffffffff, 1, 0x2a}
	if d, _ := evals(t, b, c, mem.New()); d != want {
		t.Errorf("P4.2 now: %x, want %x", d, want)
	}
}

// MaxOps operations, each of the one ahead of it.
func TestEvalLong(t *testing.T) {
	b := blockOf(1, number(1))
	for i := 1; i < api.MaxOps-1; i++ {
		b.Ops = append(b.Ops, api.Op{Kind: api.OpBin, W: api.BAdd, A: i - 1, B: 0})
	}
	b.Ops = append(b.Ops, api.Op{Kind: api.OpGotoT, A: api.MaxOps - 2})
	if d, x := evals(t, b, context(), mem.New()); d != context() || x != (api.Exit{PC: api.MaxOps - 1}) {
		t.Errorf("P4.2 %x, %+v", d, x)
	}
}

// What Check refuses is not begun: the operations ahead of the fault do nothing.
func TestEvalOfNoBlock(t *testing.T) {
	ahead := []api.Op{number(300), {Kind: api.OpPut, W: 1}, {Kind: api.OpStore, W: 2, K: 3, N: 1}}
	for _, x := range []struct {
		behind []api.Op
		want   api.Errno
	}{
		{nil, api.ErrForm},
		{[]api.Op{number(1)}, api.ErrForm},
		{[]api.Op{end, end}, api.ErrForm},
		{[]api.Op{end, {Kind: 18}}, api.ErrForm},
		{[]api.Op{{Kind: 18}, end}, api.ErrOp},
		{[]api.Op{{Kind: api.OpGoto, N: 3}}, api.ErrField},
		{[]api.Op{{Kind: api.OpGotoT, A: 1}}, api.ErrTemp},
		{long(2048), api.ErrLarge},
	} {
		m := pages()
		m.Mark(1, true)
		b := blockOf(2, slices.Concat(ahead, x.behind)...)
		d, exit, err := ir.Eval(b, context(), m)
		if d != context() || exit != (api.Exit{}) || err != x.want {
			t.Errorf("P4.2 %x, %+v, %d, want error %d", d, exit, err, x.want)
		}
		if slices.Max(all(m)) != 0 || m.Touched() {
			t.Errorf("P4.2 error %d, but something is stored", err)
		}
	}
	for _, b := range []api.Block{{}, {Count: -1, Ops: []api.Op{end}}, {Bytes: 385, Ops: []api.Op{end}}} {
		want, _ := slowCheck(b)
		if d, exit, err := ir.Eval(b, context(), mem.New()); d != context() || exit != (api.Exit{}) || err != want {
			t.Errorf("P4.2 %x, %+v, %d, want error %d", d, exit, err, want)
		}
	}
}

// P0: without a memory nothing can be loaded or stored, and all else is done.
func TestEvalWithoutMemory(t *testing.T) {
	load := api.Op{Kind: api.OpLoad, K: 3}
	store := api.Op{Kind: api.OpStore, K: 3}
	for _, x := range []struct {
		b    api.Block
		want api.Exit
	}{
		{blockOf(1, number(7), api.Op{Kind: api.OpWatch, K: 5}, end), api.Exit{PC: 10, N: 1}},
		{blockOf(1, number(7), load, end), api.Exit{Stop: api.Stop{Kind: api.StopLoad, Arg: 7}, PC: 3}},
		{blockOf(1, number(7), store, end), api.Exit{Stop: api.Stop{Kind: api.StopStore, Arg: 7}, PC: 3}},
	} {
		if d, exit := evals(t, x.b, context(), nil); d != context() || exit != x.want {
			t.Errorf("%x, %+v, want %+v", d, exit, x.want)
		}
	}
}

// twin: a memory and a slow one that are the same.
func twin(r *rand.Rand) (*mem.Memory, *slow) {
	m, s := mem.New(), &slow{watch: r.Intn(2) == 0}
	some := make([]byte, 1024)
	r.Read(some)
	m.Poke(0, some)
	copy(s.bytes[:], some)
	for page := range 256 {
		s.rights[page] = r.Intn(8) | r.Intn(8)
		m.Protect(page, s.rights[page])
		m.Mark(page, s.watch)
	}
	if r.Intn(8) == 0 {
		m.Poke(0, some[:1])
		s.told = s.watch
	}
	return m, s
}

func TestEvalAgainstSlow(t *testing.T) {
	r := rand.New(rand.NewSource(5))
	stops := map[int]int{}
	for range 2000 {
		m, s := twin(r)
		for range 10 {
			b := chanceBlock(r)
			var c api.Context
			for i := range c {
				c[i] = chanceNumber(r)
			}
			was := slices.Clone(b.Ops)
			want, exit := slowEval(b, c, s)
			d, x, err := ir.Eval(b, c, m)
			if d != want || x != exit || err != api.OK || m.Touched() != s.told {
				t.Fatalf("P4.2 Eval(%+v, %x) = %x, %+v, %d, want %x, %+v", b, c, d, x, err, want, exit)
			}
			if !slices.Equal(was, b.Ops) {
				t.Fatal("P0 Eval wrote into what was handed in")
			}
			stops[x.Stop.Kind]++
		}
		if !bytes.Equal(all(m), s.bytes[:]) {
			t.Fatal("P4.2 the memories are no longer the same")
		}
	}
	for kind := range 8 {
		if stops[kind] < 100 {
			t.Errorf("only %d of 20000 blocks are left by stop %d: this test tells little", stops[kind], kind)
		}
	}
}
