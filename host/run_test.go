package host_test

import (
	"math"
	"slices"
	"testing"

	"crossgrain/api"
	"crossgrain/host"
	"crossgrain/interp"
	"crossgrain/mem"
)

// The instructions, by their fields in the order of the chapter's table.

func enter(n int, k uint32) api.Code        { return api.Code{Op: api.HEnter, N: n, K: k} }
func li(d int, k uint32) api.Code           { return api.Code{Op: api.HLi, D: d, K: k} }
func mov(d, a int) api.Code                 { return api.Code{Op: api.HMov, D: d, A: a} }
func leavet(a, n int) api.Code              { return api.Code{Op: api.HLeaveT, A: a, N: n} }
func sel(d, a, b, c int) api.Code           { return api.Code{Op: api.HSel, D: d, A: a, B: b, C: c} }
func ldc(d, n int) api.Code                 { return api.Code{Op: api.HLdc, D: d, N: n} }
func stc(a, n int) api.Code                 { return api.Code{Op: api.HStc, A: a, N: n} }
func lds(d, n int) api.Code                 { return api.Code{Op: api.HLds, D: d, N: n} }
func sts(a, n int) api.Code                 { return api.Code{Op: api.HSts, A: a, N: n} }
func watch(n int, k uint32) api.Code        { return api.Code{Op: api.HWatch, N: n, K: k} }
func ifs(a, n int, k uint32) api.Code       { return api.Code{Op: api.HIf, A: a, N: n, K: k} }
func stop(d, n int, k, x uint32) api.Code   { return api.Code{Op: api.HStop, D: d, N: n, K: k, X: x} }
func stopif(d, a, n int, k uint32) api.Code { return api.Code{Op: api.HStopIf, D: d, A: a, N: n, K: k} }
func leave(n int, k uint32) api.Code        { return api.Code{Op: api.HLeave, N: n, K: k} }
func chain(n int, k uint32) api.Code        { return api.Code{Op: api.HChain, N: n, K: k} }
func bin(w, d, a, b int) api.Code           { return api.Code{Op: api.HBin + w, D: d, A: a, B: b} }
func un(w, d, a int) api.Code               { return api.Code{Op: api.HUn + w, D: d, A: a} }
func flags(w, d, a, b, c int) api.Code      { return api.Code{Op: api.HFlags + w, D: d, A: a, B: b, C: c} }
func cond(w, d, a int) api.Code             { return api.Code{Op: api.HCond + w, D: d, A: a} }
func load(w, d, a, n int, k uint32) api.Code {
	return api.Code{Op: api.HLoad + w, D: d, A: a, N: n, K: k}
}
func store(w, d, a, n int, k uint32) api.Code {
	return api.Code{Op: api.HStore + w, D: d, A: a, N: n, K: k}
}
func ifon(a, n int, k uint32) api.Code { return api.Code{Op: api.HIfOn, A: a, N: n, K: k} }
func now(d int) api.Code               { return api.Code{Op: api.HNow, D: d} }

func on(pc uint32, n, at int) api.Left { return api.Left{Kind: api.LeftOn, PC: pc, N: n, At: at} }
func to(pc uint32, n, at int) api.Left { return api.Left{Kind: api.LeftTo, PC: pc, N: n, At: at} }
func stuck(at int) api.Left            { return api.Left{Kind: api.LeftStuck, At: at} }
func short(pc uint32, n, at int) api.Left {
	return api.Left{Kind: api.LeftShort, PC: pc, N: n, At: at}
}
func stopped(kind int, arg, pc uint32, n, at int) api.Left {
	return api.Left{Kind: api.LeftStop, Stop: api.Stop{Kind: kind, Arg: arg}, PC: pc, N: n, At: at}
}

// context: slots that are all unlike.
func context() api.Context {
	var c api.Context
	for i := range c {
		c[i] = uint32(i+1) * 0x01010101
	}
	return c
}

// memory: page 0 may be read, 1 read and written, 2 written, 3 neither; the last may be both.
func memory() *mem.Memory {
	m := mem.New()
	b := make([]byte, api.MemSize)
	for i := range b {
		b[i] = byte(i*37 + 0x81)
	}
	m.Poke(0, b)
	for page, rights := range []int{api.Read, api.Read | api.Write, api.Write, api.Run} {
		m.Protect(page, rights)
	}
	m.Protect(255, api.Read|api.Write)
	return m
}

// with: context's slots, but for these, each with what it has.
func with(pairs ...uint32) api.Context {
	c := context()
	for i := 0; i < len(pairs); i += 2 {
		c[pairs[i]] = pairs[i+1]
	}
	return c
}

// runs: from the first word on, with context's slots, memory, and 100 left.
func runs(t *testing.T, what string, l []api.Code, want api.Left, c api.Context) {
	t.Helper()
	runsWith(t, what, words(t, l...), memory(), 100, nil, want, c)
}

func runsWith(t *testing.T, what string, w []uint32, m *mem.Memory, left int, table []api.Entry, want api.Left, c api.Context) {
	t.Helper()
	m2 := *m
	same(t, w, 0, context(), &m2, left, table)
	if d, x := host.Run(w, 0, context(), m, left, table); x != want || d != c {
		t.Errorf("P7.2 %s: %+v, %x, want %+v, %x", what, x, d, want, c)
	}
}

func TestRunExamples(t *testing.T) {
	l := []api.Code{enter(1, 10), li(0, 5), stc(0, 0), leave(1, 12)}
	w := words(t, l...)
	runsWith(t, "the first", w, mem.New(), 1, nil, on(12, 1, 5), with(0, 5))
	runsWith(t, "left 0", w, mem.New(), 0, nil, short(10, 0, 0), context())
	runs(t, "what was not written", []api.Code{enter(0, 0), mov(1, 2), leave(1, 12)}, stuck(2), context())
}

func TestRunMoves(t *testing.T) {
	runs(t, "li, mov, stc", []api.Code{enter(3, 7), li(15, 0xfffffffe), mov(0, 15), stc(0, 11), leave(3, 70)}, on(70, 3, 6), with(11, 0xfffffffe))
	runs(t, "ldc", []api.Code{enter(0, 7), ldc(3, 11), stc(3, 0), ldc(3, 0), stc(3, 5), leave(0, 70)}, on(70, 0, 6), with(0, 0x0c0c0c0c, 5, 0x0c0c0c0c))
	runs(t, "spills", []api.Code{enter(0, 7), li(0, 8), li(1, 9), sts(0, 0), sts(1, 2047), lds(0, 2047), lds(2, 0), stc(0, 1), stc(2, 2), leave(0, 70)}, on(70, 0, 12), with(1, 9, 2, 8))
	runs(t, "a spill twice", []api.Code{enter(0, 7), li(0, 8), sts(0, 5), li(0, 9), sts(0, 5), lds(1, 5), lds(2, 5), stc(1, 1), stc(2, 2), leave(0, 70)}, on(70, 0, 12), with(1, 9, 2, 9))
	for slot := range 12 {
		runs(t, "each slot", []api.Code{enter(0, 7), li(slot, 8), stc(slot, slot), leave(0, 70)}, on(70, 0, 5), with(uint32(slot), 8))
		runs(t, "each slot", []api.Code{enter(0, 7), ldc(slot+4, slot), stc(slot+4, 0), leave(0, 70)}, on(70, 0, 4), with(0, context()[slot]))
	}
}

// reckons: a block in which register 2 is a, 3 is b, 4 is c, and D becomes slot 0.
func reckons(t *testing.T, x api.Code, a, b, c, want uint32) {
	t.Helper()
	runs(t, "what is reckoned", []api.Code{enter(0, 7), li(2, a), li(3, b), li(4, c), x, stc(x.D, 0), leave(0, 70)}, on(70, 0, 10), with(0, want))
}

func TestRunReckons(t *testing.T) {
	const top, ones = 0x80000000, 0xffffffff
	for w, c := range []struct{ a, b, want uint32 }{
		{ones, 3, 2}, {1, 3, ones - 1}, {0xff0, 0x3c, 0x30}, {0xf0, 0x0f, 0xff}, {0xf0, 0x3c, 0xcc}, {3, 33, 6}, {top, 63, 1}, {top, 4, 0xf8000000},
		{top + 1, 1, 3}, {0x10001, 0x10001, 0x20001}, {0x10001, 0x10001, 1}, {7, 2, 3}, {7, 4, 3}, {9, 9, 1}, {1, ones, 1}, {ones, 1, 1},
	} {
		reckons(t, bin(w, 0, 2, 3), c.a, c.b, 77, c.want)
		reckons(t, bin(w, 2, 2, 3), c.a, c.b, 77, c.want)
		reckons(t, bin(w, 3, 2, 3), c.a, c.b, 77, c.want)
	}
	reckons(t, bin(api.BDivu, 0, 2, 3), 7, 0, 77, ones)
	reckons(t, bin(api.BRemu, 0, 2, 3), 7, 0, 77, 7)
	reckons(t, bin(api.BSub, 2, 2, 2), 7, 0, 77, 0)
	reckons(t, bin(api.BLtu, 0, 2, 3), ones, 1, 77, 0)
	for w, want := range []uint32{0xfffe7f7e, 0xfffe7f7f, 0xffffff81, 0xffff8081, 0x81, 0x8081, 0} {
		reckons(t, un(w, 0, 2), 0x00018081, 0, 0, want)
		reckons(t, un(w, 2, 2), 0x00018081, 0, 0, want)
	}
	reckons(t, un(api.UNil, 0, 2), 0, 1, 1, 1)
	for d := range 5 {
		reckons(t, sel(d, 2, 3, 4), 5, 6, 7, 6)
		reckons(t, sel(d, 2, 3, 4), 0, 6, 7, 7)
		reckons(t, sel(d, 2, 3, 4), top, 6, 7, 6)
		reckons(t, mov(d, 3), 5, 6, 7, 6)
	}
	reckons(t, sel(2, 2, 2, 2), 5, 6, 7, 5)
}

func TestRunFlagsAndConditions(t *testing.T) {
	for k := range 13 {
		for _, a := range []uint32{0, 1, 0x7fffffff, 0x80000000, 0xffffffff} {
			for _, b := range []uint32{0, 1, 31, 32, 0x80000000, 0xffffffff} {
				for _, old := range []uint32{0, 4, 15, 0xfffffff0, 0xffffffff} {
					want := interp.Flags(k, a, b, old)
					reckons(t, flags(k, 0, 2, 3, 4), a, b, old, want)
					reckons(t, flags(k, 2+k%3, 2, 3, 4), a, b, old, want)
					nows(t, uint32(k), a, b, old, want)
				}
			}
		}
	}
	reckons(t, flags(api.FSub, 0, 2, 3, 4), 0, 1, 0, api.FN|api.FC)
	nows(t, 3, 0, 1, 0, api.FN|api.FC)
	for _, k := range []uint32{13, 14, 256, 0x7fffffff, 0x80000000, 0xffffffff, 0xfffffff4} {
		nows(t, k, 0, 1, 0xfffffffa, 10)
	}
	nows(t, 0, 9, 9, 0xfffffff5, 5)
	for c := range 16 {
		for f := range uint32(16) {
			want := uint32(0)
			if interp.Holds(c, f) {
				want = 1
			}
			reckons(t, cond(c, 0, 2), f, 0, 0, want)
			reckons(t, cond(c, 2, 2), f|0xfffffff0, 0, 0, want)
		}
	}
	reckons(t, cond(4, 0, 2), api.FZ, 0, 0, 1)
	reckons(t, cond(5, 0, 2), api.FZ, 0, 0, 0)
}

// nows: with these in the slots 8 to 11, now's D becomes slot 0; the four stay as they are.
func nows(t *testing.T, k, a, b, old, want uint32) {
	t.Helper()
	l := []api.Code{enter(0, 7), li(0, k), stc(0, 8), li(0, a), stc(0, 9), li(0, b), stc(0, 10), li(0, old), stc(0, 11), now(6), stc(6, 0), leave(0, 70)}
	runs(t, "now", l, on(70, 0, 16), with(0, want, 8, k, 9, a, 10, b, 11, old))
}

func TestRunIsLeft(t *testing.T) {
	set := []api.Code{enter(5, 7), li(0, 0), li(1, 0x80000000), stc(1, 3)}
	c := with(3, 0x80000000)
	behind := func(l ...api.Code) []api.Code { return append(append([]api.Code(nil), set...), l...) }
	runs(t, "leave", behind(leave(4, 99)), on(99, 4, 7), c)
	runs(t, "if", behind(ifs(1, 4, 99), leave(0, 0)), on(99, 4, 7), c)
	runs(t, "if of 0", behind(ifs(0, 4, 99), leave(1, 2)), on(2, 1, 9), c)
	runs(t, "watch of what is not touched", behind(watch(4, 99), leave(1, 2)), on(2, 1, 9), c)
	for d := 1; d <= 7; d++ {
		runs(t, "stop", behind(stop(d, 4, 99, 0xfffffff0)), stopped(d, 0xfffffff0, 99, 4, 7), c)
		runs(t, "stopif", behind(stopif(d, 1, 64, 99), leave(0, 0)), stopped(d, 0, 99, 64, 7), c)
		runs(t, "stopif of 0", behind(stopif(d, 0, 4, 99), stop(8-d, 0, 3, 0)), stopped(8-d, 0, 3, 0, 9), c)
	}
	runs(t, "leavet", behind(leavet(1, 4)), to(0x80000000, 4, 7), c)
	runs(t, "leavet to 0", behind(leavet(0, 0)), to(0, 0, 7), c)
	runs(t, "N of more than enter's", behind(leave(64, 99)), on(99, 64, 7), c)
	runs(t, "K and N of the most", behind(leave(64, 0xffffffff)), on(0xffffffff, 64, 7), c)
}

func TestRunIsStuck(t *testing.T) {
	full := []api.Code{enter(0, 0)}
	for d := range 16 {
		full = append(full, li(d, uint32(d)))
	}
	at := 2 + 2*16
	// Each instruction that reads registers: with all of them written it is not stuck; with one fewer it is.
	for _, x := range []api.Code{
		mov(1, 2), sel(1, 2, 3, 4), stc(2, 0), sts(2, 0), ifs(2, 0, 5), stopif(1, 2, 0, 5), leavet(2, 0), ifon(2, 1, 0),
		bin(3, 1, 2, 3), un(3, 1, 2), flags(1, 1, 2, 3, 4), cond(4, 1, 2), load(0, 1, 2, 0, 5), store(0, 1, 2, 0, 5),
	} {
		if got := same(t, words(t, append(full[:17:17], x, leave(1, 1))...), 0, context(), memory(), 1, nil); got.Kind == api.LeftStuck {
			t.Errorf("P7.2 %+v is stuck with all registers written: %+v", x, got)
		}
		s, _ := shapeOf(x.Op)
		for n, letter := range []string{"", "d", "A", "B", "C"} {
			if n > 0 && s.has(letter) {
				l := append(full[:1+n:1+n], full[2+n:17]...)
				runs(t, "a register that was not written", append(l, x, leave(1, 1)), stuck(at-2), context())
			}
		}
	}
	// What an instruction itself writes was not written ahead of it.
	runs(t, "mov of itself", []api.Code{enter(0, 0), mov(3, 3), leave(1, 1)}, stuck(2), context())
	runs(t, "bin of itself", []api.Code{enter(0, 0), bin(api.BXor, 3, 3, 3), leave(1, 1)}, stuck(2), context())
	runs(t, "a sel reads both", []api.Code{enter(0, 0), li(0, 1), sel(3, 0, 0, 1), leave(1, 1)}, stuck(4), context())
	runs(t, "and the other", []api.Code{enter(0, 0), li(0, 0), sel(3, 0, 1, 0), leave(1, 1)}, stuck(4), context())
	runs(t, "a spill", []api.Code{enter(0, 0), li(0, 1), sts(0, 6), lds(0, 7), leave(1, 1)}, stuck(5), context())
	runs(t, "a spill that was stored", []api.Code{enter(0, 0), li(0, 1), sts(0, 6), lds(0, 6), leave(1, 1)}, on(1, 1, 6), context())
	runs(t, "the spill 0 and the register 0", []api.Code{enter(0, 0), li(0, 1), lds(0, 0), leave(1, 1)}, stuck(4), context())
	runs(t, "the context is as it is then", []api.Code{enter(5, 9), li(0, 1), stc(0, 6), mov(1, 9)}, stuck(5), with(6, 1))
	runs(t, "done is not told", []api.Code{enter(5, 9), chain(5, 4), enter(0, 1), mov(1, 9)}, stuck(6), context())
}

// What was written ahead of the last enter is not written.
func TestRunEnterClears(t *testing.T) {
	for _, x := range []api.Code{mov(1, 2), bin(0, 1, 2, 2), stc(2, 0), leavet(2, 0), ifs(2, 0, 0), store(0, 2, 2, 0, 0), lds(1, 2), sel(1, 2, 2, 2), ifon(2, 0, 0)} {
		runs(t, "behind another enter", []api.Code{enter(0, 0), li(2, 5), sts(2, 2), enter(0, 0), x, leave(1, 1)}, stuck(7), context())
		runs(t, "behind a chain", []api.Code{enter(0, 0), li(2, 5), sts(2, 2), chain(3, 7), enter(0, 0), x, leave(1, 1)}, stuck(9), context())
	}
	runs(t, "written again", []api.Code{enter(0, 0), li(2, 5), sts(2, 2), enter(0, 0), li(2, 6), sts(2, 2), lds(3, 2), stc(3, 0), leave(1, 1)}, on(1, 1, 12), with(0, 6))
	// The same block twice: by the second time nothing of the first is left.
	l := []api.Code{enter(1, 0), ldc(0, 0), li(1, 1), bin(api.BSub, 2, 0, 1), stc(2, 0), ifs(3, 0, 9), chain(1, 0)}
	runs(t, "a register of an earlier turn", l, stuck(7), with(0, 0x01010100))
	l = []api.Code{enter(1, 0), ldc(0, 0), ifon(0, 1, 7), enter(1, 0), lds(1, 9), enter(0, 7), leave(0, 0)}
	runs(t, "an ifon to no enter", l, stuck(3), context())
}

func TestRunFirstWord(t *testing.T) {
	w := words(t, li(0, 9), enter(1, 10), leave(1, 12), li(0, 9))
	m := memory()
	for _, at := range []int{math.MinInt, -1 << 32, -2, -1, 0, 1, 3, 4, 5, 6, 7, 8, 9, 10, 1 << 32, 1<<32 + 2, math.MaxInt} {
		if d, x := host.Run(w, at, context(), m, 9, nil); x != stuck(at) || d != context() {
			t.Errorf("P7.2 Run at %d: %+v, %x", at, x, d)
		}
		same(t, w, at, context(), m, 9, nil)
	}
	if _, x := host.Run(w, 2, context(), m, 9, nil); x != on(12, 1, 4) {
		t.Errorf("P7.2 Run at 2: %+v", x)
	}
	for _, w := range [][]uint32{nil, {}, {1}, {0x410001, 0}, {0x101, 0}, {0x1001, 0}, {0}, {0xffffffff, 0xffffffff}} {
		if _, x := host.Run(w, 0, context(), m, 9, nil); x != stuck(0) {
			t.Errorf("P7.2 Run of %x: %+v", w, x)
		}
	}
	runs(t, "no end", []api.Code{enter(1, 1), li(0, 0)}, stuck(4), context())
	runs(t, "no more than an enter", []api.Code{enter(1, 1)}, stuck(2), context())
	bad := append(words(t, enter(1, 1), li(0, 4), stc(0, 4)), 0x01000010, 0x10)
	runsWith(t, "a wrong bit", bad, m, 9, nil, stuck(5), with(4, 4))
	runsWith(t, "words that end", append(words(t, enter(1, 1)), 0x10c, 0), m, 9, nil, stuck(2), context())
}

func TestRunGoesOn(t *testing.T) {
	// Words: 0 enter, 2 li, 4 what leads on, 6 leave; 8 li, 10 enter, 12 leave.
	list := func(x api.Code) []api.Code {
		return []api.Code{enter(2, 5), li(0, 9), x, leave(2, 6), li(1, 0x00030001), enter(3, 40), leave(3, 44)}
	}
	runs(t, "chain", list(chain(2, 10)), on(44, 5, 12), context())
	runs(t, "ifon", list(ifon(0, 2, 10)), on(44, 5, 12), context())
	runs(t, "chain with another N", list(chain(0, 10)), on(44, 3, 12), context())
	for _, k := range []uint32{2, 4, 6, 8, 12, 1, 3, 5, 7, 11, 13, 14, 15, 16, 1000, 0x7fffffff, 0x80000000, 0x8000000a, 0xffffffff} {
		runs(t, "chain to no enter", list(chain(2, k)), stuck(4), context())
		runs(t, "ifon to no enter", list(ifon(0, 2, k)), stuck(4), context())
		l := list(ifon(0, 2, k))
		l[1] = li(0, 0)
		runs(t, "ifon of 0", l, on(6, 2, 6), context())
	}
	runs(t, "the middle of li has words that are an enter's", list(chain(2, 9)), stuck(11), context())
	// A word that is an enter's, and no word behind it.
	runsWith(t, "an enter that ends too early", append(words(t, enter(2, 5), chain(2, 4)), 1), memory(), 9, nil, stuck(2), context())
	runsWith(t, "an enter with a wrong N", append(words(t, enter(2, 5), chain(2, 4)), 65<<16|1, 0), memory(), 9, nil, stuck(2), context())
	runs(t, "into an enter without chain", []api.Code{enter(2, 5), enter(1, 6), leave(1, 7)}, on(7, 1, 4), context())
}

func TestRunLeft(t *testing.T) {
	m := memory()
	w := words(t, enter(3, 10), leave(3, 13))
	for _, left := range []int{math.MinInt, -1 << 32, -1, 0, 1, 2} {
		runsWith(t, "too few", w, m, left, nil, short(10, 0, 0), context())
	}
	for _, left := range []int{3, 4, 1 << 32, math.MaxInt} {
		runsWith(t, "enough", w, m, left, nil, on(13, 3, 2), context())
	}
	nothing := words(t, enter(0, 10), leave(3, 13))
	runsWith(t, "a block of none with left 0", nothing, m, 0, nil, on(13, 3, 2), context())
	runsWith(t, "a block of none with left -1", nothing, m, -1, nil, short(10, 0, 0), context())
	runsWith(t, "a block of none with the least left", nothing, m, math.MinInt, nil, short(10, 0, 0), context())
	// Behind 2 that are done.
	two := words(t, enter(1, 10), chain(2, 4), enter(3, 40), leave(1, 41))
	for left := range 5 {
		want := short(40, 2, 4)
		if left == 0 {
			want = short(10, 0, 0)
		}
		runsWith(t, "too few behind two", two, m, left, nil, want, context())
	}
	runsWith(t, "enough behind two", two, m, 5, nil, on(41, 3, 6), context())
	// A loop of chains, three guest instructions a turn.
	loop := words(t, enter(3, 10), ldc(0, 0), li(1, 1), bin(0, 0, 0, 1), stc(0, 0), chain(3, 0))
	for left := range 20 {
		turns := left / 3
		runsWith(t, "a loop", loop, m, left, nil, short(10, 3*turns, 0), with(0, 0x01010101+uint32(turns)))
	}
	// More are done than the block told.
	more := words(t, enter(1, 10), chain(64, 4), enter(0, 40), leave(0, 41))
	runsWith(t, "done is more than left", more, m, 63, nil, short(40, 64, 4), context())
	runsWith(t, "done is just left", more, m, 64, nil, on(41, 64, 6), context())
}

func TestRunTouched(t *testing.T) {
	touched := memory()
	touched.Mark(1, true)
	touched.Poke(300, []byte{1})
	w := words(t, enter(3, 10), leave(3, 13))
	runsWith(t, "at the first enter", w, touched, 9, nil, on(10, 0, 0), context())
	runsWith(t, "with too few left", w, touched, 0, nil, on(10, 0, 0), context())
	runsWith(t, "with far too few left", w, touched, math.MinInt, nil, on(10, 0, 0), context())
	runsWith(t, "stuck comes first", words(t, leave(3, 13)), touched, 9, nil, stuck(0), context())
	touched.Changed()
	runsWith(t, "told no longer", w, touched, 9, nil, on(13, 3, 2), context())

	marked := func() *mem.Memory {
		m := memory()
		m.Mark(1, true)
		return m
	}
	into := func(at uint32, behind ...api.Code) []uint32 {
		return words(t, append([]api.Code{enter(3, 10), li(0, at), li(1, 5), store(0, 1, 0, 1, 11)}, behind...)...)
	}
	runsWith(t, "at a watch", into(256, watch(2, 12), leave(3, 13)), marked(), 9, nil, on(12, 2, 8), context())
	runsWith(t, "another page", into(512, watch(2, 12), leave(3, 13)), marked(), 9, nil, on(13, 3, 10), context())
	runsWith(t, "no watch", into(256, leave(3, 13)), marked(), 9, nil, on(13, 3, 8), context())
	runsWith(t, "at a later enter", into(256, chain(3, 10), enter(1, 40), leave(1, 41)), marked(), 9, nil, on(40, 3, 10), context())
	runsWith(t, "at a later enter, with too few left", into(256, chain(3, 10), enter(1, 40), leave(1, 41)), marked(), 3, nil, on(40, 3, 10), context())
	runsWith(t, "at its own enter", into(256, chain(3, 0)), marked(), 99, nil, on(10, 3, 0), context())
	runsWith(t, "at an enter behind it", into(256, enter(0, 40), leave(1, 41)), marked(), 9, nil, on(40, 0, 8), context())
	runsWith(t, "a store that stops touches nothing", into(0, watch(2, 12), leave(3, 13)), marked(), 9, nil, stopped(api.StopStore, 0, 11, 1, 6), context())
}

func TestRunLoadsAndStores(t *testing.T) {
	m := memory()
	m.Poke(254, []byte{0x80, 0x91, 0xa2, 0xf3})
	for w, want := range []uint32{0x80, 0xffffff80, 0x9180, 0xffff9180, 0xf3a29180} {
		l := words(t, enter(1, 10), li(5, 254), load(w, 5, 5, 0, 10), stc(5, 0), leave(1, 13))
		runsWith(t, "a load", l, m, 9, nil, on(13, 1, 7), with(0, want))
	}
	m.Poke(256, []byte{0x7f, 0x7f, 0x7f, 0x7f})
	for w, want := range []uint32{0x7f, 0x7f, 0x7f7f, 0x7f7f, 0x7f7f7f7f} {
		l := words(t, enter(1, 10), li(5, 256), load(w, 4, 5, 0, 10), stc(4, 0), leave(1, 13))
		runsWith(t, "a load without a sign", l, m, 9, nil, on(13, 1, 7), with(0, want))
	}
	bytes := []int{1, 1, 2, 2, 4}
	for w, n := range bytes {
		for first := range n {
			// Page 2 may not be read, page 0 not written, neither may what is beyond the memory.
			for _, edge := range []uint32{512, 65536} {
				l := words(t, enter(1, 10), li(5, edge-uint32(first)), load(w, 4, 5, 7, 20), leave(1, 13))
				runsWith(t, "a load that stops", l, m, 9, nil, stopped(api.StopLoad, edge, 20, 7, 4), context())
			}
		}
		l := words(t, enter(1, 10), li(5, 0xffffffff), load(w, 4, 5, 64, 20), leave(1, 13))
		runsWith(t, "a load far beyond", l, m, 9, nil, stopped(api.StopLoad, 0xffffffff, 20, 64, 4), context())
	}
	for w, n := range []int{1, 2, 4} {
		for first := range n {
			for _, edge := range []uint32{768, 65536} {
				l := words(t, enter(1, 10), li(5, edge-uint32(first)), li(0, 1), stc(0, 0), store(w, 5, 5, 7, 20), leave(1, 13))
				runsWith(t, "a store that stops", l, m, 9, nil, stopped(api.StopStore, edge, 20, 7, 7), with(0, 1))
			}
		}
		fresh := memory()
		l := words(t, enter(1, 10), li(5, 510), li(6, 0x44332211), store(w, 6, 5, 1, 20), leave(1, 13))
		runsWith(t, "a store", l, fresh, 9, nil, on(13, 1, 8), context())
		was, _ := memory().Peek(508, 8)
		copy(was[2:], []byte{0x11, 0x22, 0x33, 0x44}[:n])
		if b, _ := fresh.Peek(508, 8); string(b) != string(was) {
			t.Errorf("P7.2 a store of %d: %x, want %x", n, b, was)
		}
	}
	l := words(t, enter(1, 10), li(5, 0), store(0, 5, 5, 0, 20), leave(1, 13))
	runsWith(t, "a store where only reading is allowed", l, m, 9, nil, stopped(api.StopStore, 0, 20, 0, 4), context())
	// Stops behind some that are done.
	l = words(t, enter(4, 10), chain(4, 4), enter(1, 40), li(5, 3), store(0, 5, 5, 1, 20), leave(1, 13))
	runsWith(t, "a store behind a chain", l, m, 9, nil, stopped(api.StopStore, 3, 20, 5, 8), context())
}

func TestRunTable(t *testing.T) {
	m := memory()
	// Words: 0 enter, 2 li, 4 leavet, 5 li, 7 enter, 9 leave.
	w := words(t, enter(2, 5), li(0, 41), leavet(0, 2), li(1, 1), enter(3, 41), leave(3, 44))
	left := to(41, 2, 4)
	e := func(pc uint32, at int) api.Entry { return api.Entry{PC: pc, At: at} }
	for _, c := range []struct {
		what  string
		table []api.Entry
		want  api.Left
	}{
		{"no table", nil, left},
		{"an empty table", []api.Entry{}, left},
		{"one that leads on", []api.Entry{e(41, 7)}, on(44, 5, 9)},
		{"the rest", []api.Entry{e(0, -1), e(41, 7)}, on(44, 5, 9)},
		{"the rest by 4", []api.Entry{e(41, 0), e(41, 7), e(41, 0), e(41, 0)}, on(44, 5, 9)},
		{"the rest by 42", append(make([]api.Entry, 41), e(41, 7)), on(44, 5, 9)},
		{"the rest by 50", append(append(make([]api.Entry, 41), e(41, 7)), make([]api.Entry, 8)...), on(44, 5, 9)},
		{"another number", []api.Entry{e(41, 7), e(0, -1)}, left},
		{"another PC", []api.Entry{e(40, 7)}, left},
		{"another PC with the same rest", []api.Entry{e(0, 0), e(39, 7)}, left},
		{"At -1", []api.Entry{e(41, -1)}, left},
		{"At far below 0", []api.Entry{e(41, math.MinInt)}, left},
		{"At of a li", []api.Entry{e(41, 5)}, left},
		{"At of leavet itself", []api.Entry{e(41, 4)}, left},
		{"At in the middle", []api.Entry{e(41, 8)}, left},
		{"At of the length", []api.Entry{e(41, 11)}, left},
		{"At beyond", []api.Entry{e(41, 12)}, left},
		{"At far beyond", []api.Entry{e(41, math.MaxInt)}, left},
		{"At that wraps round", []api.Entry{e(41, 1<<32+7)}, left},
		{"back to itself", []api.Entry{e(41, 0)}, short(5, 8, 0)},
	} {
		runsWith(t, c.what, w, m, 9, c.table, c.want, context())
	}
	runsWith(t, "one that leads on, with too few left", w, m, 4, []api.Entry{e(41, 7)}, short(41, 2, 7), context())
	top := words(t, enter(2, 5), li(0, 0xfffffffe), leavet(0, 2), enter(3, 41), leave(3, 44))
	runsWith(t, "a PC of the most", top, m, 9, []api.Entry{e(1, 1), e(2, 2), e(0xfffffffe, 5)}, on(44, 5, 7), context())
	runsWith(t, "an entry of PC 0", words(t, enter(2, 5), li(0, 0), leavet(0, 2), enter(3, 41), leave(3, 44)), m, 9, []api.Entry{{}}, short(5, 8, 0), context())
}

// turning: so many instructions ahead of a loop of six, in which slot 0 counts the turns.
func turning(t *testing.T, ahead int) []uint32 {
	l := []api.Code{enter(0, 1)}
	for len(l) < ahead-1 {
		l = append(l, li(0, 0))
	}
	at := uint32(2*len(l) + 2)
	l = append(l, chain(0, at))
	return words(t, append(l, enter(0, 2), ldc(0, 0), li(1, 1), bin(api.BAdd, 0, 0, 1), stc(0, 0), chain(0, at))...)
}

func TestRunFuel(t *testing.T) {
	const fuel = 1048576
	for ahead := 2; ahead <= 9; ahead++ {
		w := turning(t, ahead)
		turns := 0
		for ahead+6*turns < fuel {
			turns++
		}
		d, x := host.Run(w, 0, api.Context{}, memory(), 0, nil)
		if x != (api.Left{Kind: api.LeftFuel, PC: 2, At: 2 * ahead}) || d != (api.Context{uint32(turns)}) {
			t.Errorf("P7.2 a loop behind %d: %+v, %d turns, want %d", ahead, x, d[0], turns)
		}
	}
	// One more than fuel in a row is done: only an enter asks.
	long := append(words(t, enter(0, 0)), slices.Repeat(words(t, now(3)), fuel+5)...)
	long = append(long, words(t, leave(1, 2))...)
	if _, x := host.Run(long, 0, context(), memory(), 9, nil); x != on(2, 1, fuel+7) {
		t.Errorf("P7.2 many without an enter: %+v", x)
	}
	long = append(long[:len(long)-2], words(t, enter(7, 8), leave(1, 2))...)
	if _, x := host.Run(long, 0, context(), memory(), 9, nil); x != (api.Left{Kind: api.LeftFuel, PC: 8, At: fuel + 7}) {
		t.Errorf("P7.2 many, then an enter: %+v", x)
	}
	if _, x := host.Run(long, 0, context(), memory(), 6, nil); x != short(8, 0, fuel+7) {
		t.Errorf("P7.2 many, then an enter with too few left: %+v", x)
	}
	long = append(words(t, enter(0, 0), li(0, 256), store(0, 0, 0, 0, 0)), long[2:]...)
	m := memory()
	m.Mark(1, true)
	if _, x := host.Run(long, 0, context(), m, 6, nil); x != on(8, 0, fuel+11) {
		t.Errorf("P7.2 many, then an enter with a page that is told: %+v", x)
	}
}

func TestRunWithoutMemory(t *testing.T) {
	for _, c := range []struct {
		x    api.Code
		want api.Left
	}{
		{load(4, 1, 0, 2, 20), stopped(api.StopLoad, 77, 20, 2, 4)},
		{store(2, 0, 0, 2, 20), stopped(api.StopStore, 77, 20, 2, 4)},
		{watch(2, 20), on(13, 1, 6)},
		{leave(1, 13), on(13, 1, 4)},
	} {
		w := words(t, enter(1, 10), li(0, 77), c.x, leave(1, 13))
		if d, x := host.Run(w, 0, context(), nil, 9, nil); x != c.want || d != context() {
			t.Errorf("P0 without memory: %+v, want %+v", x, c.want)
		}
	}
	if _, x := host.Run(nil, 0, context(), nil, 0, nil); x != stuck(0) {
		t.Errorf("P0 without anything: %+v", x)
	}
}
