package engine_test

import (
	"math"
	"slices"
	"testing"

	"crossgrain/api"
	"crossgrain/engine"
	"crossgrain/gen"
	"crossgrain/guest"
	"crossgrain/host"
	"crossgrain/interp"
	"crossgrain/lift"
	"crossgrain/mem"
	"crossgrain/opt"
)

// code: instructions, one behind the other.
func code(list ...api.Ins) []byte {
	var b []byte
	for _, x := range list {
		one, err := guest.Encode(x)
		if err != api.OK {
			panic("an instruction that has no bytes")
		}
		b = append(b, one...)
	}
	return b
}

func inc(d int) api.Ins             { return api.Ins{Op: api.Inc, D: d} }
func dec(d int) api.Ins             { return api.Ins{Op: api.Dec, D: d} }
func push(s int) api.Ins            { return api.Ins{Op: api.Push, S: s} }
func movi(d int, k uint32) api.Ins  { return api.Ins{Op: api.MovI, D: d, Imm: k} }
func jmp8(far int) api.Ins          { return api.Ins{Op: api.Jmp8, Imm: uint32(far)} }
func jmp(far int) api.Ins           { return api.Ins{Op: api.Jmp, Imm: uint32(far)} }
func jcc8(o, far int) api.Ins       { return api.Ins{Op: api.Jcc8, O: o, Imm: uint32(far)} }
func call(far int) api.Ins          { return api.Ins{Op: api.Call, Imm: uint32(far)} }
func byReg(op, s int) api.Ins       { return api.Ins{Op: op, S: s} }
func sys(k uint32) api.Ins          { return api.Ins{Op: api.Sys, Imm: k} }
func alone(op int) api.Ins          { return api.Ins{Op: op} }
func load(o, d, s, far int) api.Ins { return api.Ins{Op: api.Load, O: o, D: d, S: s, Imm: uint32(far)} }
func store(o, d, s, far int) api.Ins {
	return api.Ins{Op: api.Store, O: o, D: d, S: s, Imm: uint32(far)}
}
func at(op, d, s, far int) api.Ins { return api.Ins{Op: op, D: d, S: s, Imm: uint32(far)} }

// Numbers of bytes that an instruction may be overwritten with.
const (
	incR0  = 0x48
	decR0  = 0x50
	noIns  = 0xff
	ifNot  = 5 // the condition that the value is not 0
	ifZero = 4
)

func state(pc uint32, r ...uint32) api.State {
	s := api.State{PC: pc}
	s.R[7] = stack
	copy(s.R[:], r)
	return s
}

// each: a guest, by options of all sorts.
func each(t *testing.T, what string, m *mem.Memory, do func(x *trial)) {
	t.Helper()
	by(t, options(), what, m, do)
}

func by(t *testing.T, list []api.Options, what string, m *mem.Memory, do func(x *trial)) {
	t.Helper()
	for _, o := range list {
		do(open(t, what, o, m))
	}
}

func TestNew(t *testing.T) {
	for what, change := range map[string]func(o *api.Options) api.Errno{
		"as it is":              func(o *api.Options) api.Errno { return api.OK },
		"Most 0":                func(o *api.Options) api.Errno { o.Most = 0; return api.ErrArg },
		"Most 1":                func(o *api.Options) api.Errno { o.Most = 1; return api.OK },
		"Most MaxBlock":         func(o *api.Options) api.Errno { o.Most = api.MaxBlock; return api.OK },
		"Most MaxBlock + 1":     func(o *api.Options) api.Errno { o.Most = api.MaxBlock + 1; return api.ErrArg },
		"Most below 0":          func(o *api.Options) api.Errno { o.Most = math.MinInt; return api.ErrArg },
		"Most by 32 bits":       func(o *api.Options) api.Errno { o.Most = 1<<32 + 1; return api.ErrArg },
		"Regs 2":                func(o *api.Options) api.Errno { o.Regs = 2; return api.ErrArg },
		"Regs 3":                func(o *api.Options) api.Errno { o.Regs = 3; return api.OK },
		"Regs 16":               func(o *api.Options) api.Errno { o.Regs = 16; return api.OK },
		"Regs 17":               func(o *api.Options) api.Errno { o.Regs = 17; return api.ErrArg },
		"Regs below 0":          func(o *api.Options) api.Errno { o.Regs = math.MinInt; return api.ErrArg },
		"Regs by 32 bits":       func(o *api.Options) api.Errno { o.Regs = 1<<32 + 8; return api.ErrArg },
		"Hot -1":                func(o *api.Options) api.Errno { o.Hot = -1; return api.ErrArg },
		"Hot least":             func(o *api.Options) api.Errno { o.Hot = math.MinInt; return api.ErrArg },
		"Hot 0":                 func(o *api.Options) api.Errno { o.Hot = 0; return api.OK },
		"Hot 1":                 func(o *api.Options) api.Errno { o.Hot = 1; return api.OK },
		"Hot most":              func(o *api.Options) api.Errno { o.Hot = math.MaxInt; return api.OK },
		"Words 0":               func(o *api.Options) api.Errno { o.Words = 0; return api.ErrArg },
		"Words 1":               func(o *api.Options) api.Errno { o.Words = 1; return api.OK },
		"Words MaxCode":         func(o *api.Options) api.Errno { o.Words = api.MaxCode; return api.OK },
		"Words MaxCode + 1":     func(o *api.Options) api.Errno { o.Words = api.MaxCode + 1; return api.ErrArg },
		"Words below 0":         func(o *api.Options) api.Errno { o.Words = -1; return api.ErrArg },
		"Slots 0":               func(o *api.Options) api.Errno { o.Slots = 0; return api.ErrArg },
		"Slots 1":               func(o *api.Options) api.Errno { o.Slots = 1; return api.OK },
		"Slots 65536":           func(o *api.Options) api.Errno { o.Slots = 65536; return api.OK },
		"Slots 65537":           func(o *api.Options) api.Errno { o.Slots = 65537; return api.ErrArg },
		"Slots below 0":         func(o *api.Options) api.Errno { o.Slots = -1; return api.ErrArg },
		"Most and Words":        func(o *api.Options) api.Errno { o.Most, o.Words = 0, 0; return api.ErrArg },
		"all at their least":    func(o *api.Options) api.Errno { *o = api.Options{Words: 1, Slots: 1, Most: 1, Regs: 3}; return api.OK },
		"nothing told at all":   func(o *api.Options) api.Errno { *o = api.Options{}; return api.ErrArg },
		"neither clean nor led": func(o *api.Options) api.Errno { o.Opt, o.Chain = false, false; return api.OK },
	} {
		o := roomy()
		want := change(&o)
		m := ground(code(jmp8(-2))...)
		m.Mark(0, true)
		m.Poke(0, []byte{6})
		e, err := engine.New(m, o)
		if err != want || (e != nil) != (want == api.OK) {
			t.Errorf("P10.1 New, %s: %v, %d, want %d", what, e != nil, err, want)
			continue
		}
		if m.Touched() != (err != api.OK) {
			t.Errorf("P10.1 New, %s: is a page told still: %v", what, m.Touched())
		}
		if e != nil && (len(e.Cache().Places()) != 0 || e.Cache().Used() != 0 || len(e.Cache().Table()) != o.Slots) {
			t.Errorf("P10.1 New, %s: its cache is not empty", what)
		}
		if e, err := engine.New(nil, o); e != nil || err != api.ErrArg {
			t.Errorf("P10.1 New over no memory, %s: %v, %d", what, e != nil, err)
		}
	}
}

// Whatever was watched ahead of New is not behind it, in no page.
func TestNewWatches(t *testing.T) {
	m := mem.New()
	for page := range api.Pages {
		m.Mark(page, true)
	}
	m.Poke(0, []byte{1})
	engine.New(m, roomy())
	if m.Touched() {
		t.Error("P10.1 a page is told behind New")
	}
	for page := range api.Pages {
		m.Poke(page*api.PageSize, []byte{1})
		if m.Touched() {
			t.Fatalf("P10.1 page %d is watched behind New", page)
		}
	}
}

func TestExampleLoop(t *testing.T) {
	o := roomy()
	o.Hot = 3
	x := open(t, "the loop", o, ground(code(dec(0), jcc8(ifNot, -3), alone(api.Brk))...))
	s, stop, n := x.run(state(0, 1000), 2000)
	if n != 2000 || stop != (api.Stop{}) || s.R[0] != 0 || s.PC != 3 || !x.has(0) {
		t.Errorf("P10.2 %+v, %v, %d; a block: %v", s, stop, n, x.has(0))
	}
	x.protect(0, api.Read|api.Write)
	s, stop, n = x.run(state(0, 1000), 2000)
	if n != 0 || stop != (api.Stop{Kind: api.StopFetch}) || s != state(0, 1000) || x.has(0) {
		t.Errorf("P10.4 without Run: %+v, %v, %d; a block: %v", s, stop, n, x.has(0))
	}
}

func TestExampleNextInstruction(t *testing.T) {
	// The byte at 3 is written with that of dec R0.
	m := ground(code(store(0, 1, 2, 0), inc(0), inc(0), sys(7))...)
	each(t, "a store into the next instruction", m, func(x *trial) {
		for range 3 {
			s, stop, n := x.run(state(0, 40, decR0, 3), 10)
			if s.R[0] != 40 || n != 4 || stop != (api.Stop{Kind: api.StopSys, Arg: 7}) {
				t.Errorf("P10.4 %+v: %+v, %v, %d", x.o, s, stop, n)
			}
		}
		if x.o.Words == 1 && x.e.Cache().Used() != 0 {
			t.Error("P10.3 a block in one word")
		}
	})
}

// The examples of the whole: a loop that adds, call and ret a hundred deep.
func TestExamplesOfTheWhole(t *testing.T) {
	each(t, "adds", ground(code(inc(1), dec(0), jcc8(ifNot, -4), sys(0))...), func(x *trial) {
		s, stop, n := x.run(state(0, 1000), 100000)
		if s.R[1] != 1000 || n != 3001 || stop.Kind != api.StopSys {
			t.Errorf("P10.2 %+v: %+v, %v, %d", x.o, s, stop, n)
		}
	})
	// 0: call 7; sys 0; 7: dec R0; jcc8 zero, 5 on; call 7; ret
	deep := ground(code(call(2), sys(0), dec(0), jcc8(ifZero, 5), call(-8), alone(api.Ret))...)
	each(t, "calls", deep, func(x *trial) {
		s, stop, n := x.run(state(0, 100), 100000)
		if s.R[7] != stack || n != 1+3*100-1+100+1 || stop.Kind != api.StopSys {
			t.Errorf("P10.2 %+v: %+v, %v, %d", x.o, s, stop, n)
		}
		noted := slices.ContainsFunc(x.e.Cache().Table(), func(e api.Entry) bool { return e.At >= 0 })
		if noted && !x.o.Chain || !noted && x.o.Chain && x.o.Words == 40000 {
			t.Errorf("P10.3 %+v: the table leads somewhere: %v", x.o, noted)
		}
	})
}

// n at all edges of a block of five, alone and behind each other.
func TestNumbersOfSteps(t *testing.T) {
	m := ground(code(inc(0), inc(1), inc(2), inc(3), jmp8(-6))...)
	numbers := []int{math.MinInt, -1, 0, 1, 2, 3, 4, 5, 6, 7, 9, 10, 11, 14, 15, 16, 100}
	runs := func(list ...int) {
		each(t, "a block of five", m, func(x *trial) {
			s := state(0)
			s.F = 0xfffffff4
			done := 0
			for _, n := range list {
				var stop api.Stop
				var k int
				s, stop, k = x.run(s, n)
				done += k
				if k != max(n, 0) || stop != (api.Stop{}) || s.F > 15 || s.R[0] != uint32(done+4)/5 {
					t.Fatalf("P10.2 %+v: by %d: %+v, %v, %d", x.o, n, s, stop, k)
				}
			}
		})
	}
	for _, n := range numbers {
		runs(n, 1)
	}
	runs(numbers...)
	slices.Reverse(numbers)
	runs(numbers...)
}

// Of all that stops, as the first, a middle and the last instruction of a block, and ahead of one.
func TestStops(t *testing.T) {
	for _, y := range []struct {
		what string
		x    api.Ins
		stop api.Stop
		done int
	}{
		{"brk", alone(api.Brk), api.Stop{Kind: api.StopBrk}, 0},
		{"sys", sys(9), api.Stop{Kind: api.StopSys, Arg: 9}, 1},
		{"load", load(4, 0, 6, 0), api.Stop{Kind: api.StopLoad, Arg: 0x700}, 0},
		{"load across two pages", load(4, 0, 6, -2), api.Stop{Kind: api.StopLoad, Arg: 0x700}, 0},
		{"store", store(2, 0, 6, 0), api.Stop{Kind: api.StopStore, Arg: 0x700}, 0},
		{"store into what may be read", store(0, 0, 6, -5), api.Stop{Kind: api.StopStore, Arg: 0x6fb}, 0},
		{"cas of what may be read", at(api.Cas, 0, 6, -5), api.Stop{Kind: api.StopStore, Arg: 0x6fb}, 0},
		{"xadd", at(api.Xadd, 1, 6, 1), api.Stop{Kind: api.StopLoad, Arg: 0x701}, 0},
		{"jmpm", at(api.JmpM, 0, 6, 0), api.Stop{Kind: api.StopLoad, Arg: 0x700}, 0},
		{"divide", api.Ins{Op: api.Alu, O: api.Divu, D: 1, S: 5}, api.Stop{Kind: api.StopDivide}, 0},
	} {
		for ahead := range 4 {
			list := append(slices.Repeat([]api.Ins{inc(1)}, ahead), y.x, inc(2), jmp8(-20))
			by(t, some(), y.what, ground(code(list...)...), func(x *trial) {
				s := state(0, 9, 8, 7, 6, 5, 0, 0x700)
				for range 3 {
					x.run(s, ahead)
					got, stop, n := x.run(s, 20)
					if stop != y.stop || n != ahead+y.done || got.R[1] != uint32(8+ahead) {
						t.Errorf("P10.2 %s behind %d, %+v: %+v, %v, %d", y.what, ahead, x.o, got, stop, n)
					}
				}
			})
		}
	}
}

// Pushes and pops that stop; and what jumps to where nothing is.
func TestStopsOfTheStack(t *testing.T) {
	for what, x := range map[string]api.Ins{
		"push": push(1), "pushf": alone(api.Pushf), "call": call(5), "callr": byReg(api.CallR, 1),
		"pop": {Op: api.Pop, D: 1}, "popf": alone(api.Popf), "ret": alone(api.Ret),
	} {
		m := ground(code(inc(0), x, inc(0))...)
		each(t, what, m, func(x *trial) {
			for range 3 {
				_, stop, n := x.run(state(0, 1, 2, 3, 4, 5, 6, 7, 0x800), 9)
				if n != 1 || stop.Kind != api.StopLoad && stop.Kind != api.StopStore || stop.Arg&^7 != 0x7f8 && stop.Arg != 0x800 {
					t.Errorf("P10.2 %s, %+v: %v, %d", what, x.o, stop, n)
				}
			}
		})
	}
}

// Places from which nothing can be fetched or decoded, begun at and come to.
func TestNothingThere(t *testing.T) {
	m := ground()
	m.Poke(0x10, []byte{noIns})              // no instruction
	m.Poke(0x20, []byte{9, 8})               // jmpr of a register above 7
	m.Poke(0x2fd, []byte{0x40, 1, 2, 3})     // movi goes on into page 3
	m.Poke(0xfffc, []byte{0x40, 1, 2, 3})    // and beyond the memory
	m.Poke(0x280, code(byReg(api.JmpR, 0)))  // goes there
	m.Poke(0x290, code(inc(1), alone(0)))    // comes there
	m.Poke(0x292, []byte{0x7f, 0x80, 0, 0})  // a register above 7
	m.Poke(0xfff0, code(inc(1), jmp8(0x0d))) // beyond the memory, by itself
	for _, y := range []struct {
		pc   uint32
		stop api.Stop
	}{
		{0x10, api.Stop{Kind: api.StopOp}}, {0x20, api.Stop{Kind: api.StopOp}}, {0x292, api.Stop{Kind: api.StopOp}},
		{0x2fd, api.Stop{Kind: api.StopFetch, Arg: 0x300}}, {0x300, api.Stop{Kind: api.StopFetch, Arg: 0x300}},
		{0x410, api.Stop{Kind: api.StopFetch, Arg: 0x410}}, {0xfffc, api.Stop{Kind: api.StopFetch, Arg: 0x10000}},
		{0x10000, api.Stop{Kind: api.StopFetch, Arg: 0x10000}}, {0x10010, api.Stop{Kind: api.StopFetch, Arg: 0x10010}},
		{0x80000000, api.Stop{Kind: api.StopFetch, Arg: 0x80000000}}, {0xffffffff, api.Stop{Kind: api.StopFetch, Arg: 0xffffffff}},
	} {
		each(t, "nothing there", m, func(x *trial) {
			for range 4 {
				if s, stop, n := x.run(state(y.pc, 1), 5); s != state(y.pc, 1) || stop != y.stop || n != 0 {
					t.Errorf("P10.2 %+v, at %x: %+v, %v, %d", x.o, y.pc, s, stop, n)
				}
				if s, stop, n := x.run(state(0x280, y.pc), 5); s.PC != y.pc || stop != y.stop || n != 1 {
					t.Errorf("P10.2 %+v, to %x: %+v, %v, %d", x.o, y.pc, s, stop, n)
				}
			}
			x.run(state(0x290), 5)
			x.run(state(0xfff0), 5)
			if x.has(y.pc) {
				t.Errorf("P10.3 %+v: a block at %x", x.o, y.pc)
			}
		})
	}
}

// How often Run came to a place counts even where there was nothing to make a block of.
func TestHotBeforeThereIsAnything(t *testing.T) {
	o := roomy()
	o.Hot = 2
	x := open(t, "first without Run", o, ground(code(inc(0), jmp8(-3))...))
	x.protect(0, api.Read)
	x.run(state(0), 10)
	x.run(state(0), 10)
	x.protect(0, every)
	x.wants()
	x.run(state(0), 1)
	x.wants(0)
}

// The block of a place is there behind just as many comes as Hot says, and one.
func TestHot(t *testing.T) {
	m := ground(code(inc(0), inc(1), jmp8(-4))...)
	for hot := range 6 {
		o := roomy()
		o.Hot = hot
		x := open(t, "hot", o, m)
		for range 2 {
			for came := range hot + 3 {
				if x.has(0) != (came > hot) {
					t.Fatalf("P10.3 Hot %d: behind %d comes a block: %v", hot, came, x.has(0))
				}
				// By none it comes nowhere.
				x.run(state(0), 0)
				x.run(state(0), -5)
				x.run(state(0), 1)
			}
			// Where a run ends it did not come to.
			x.wants(0)
			x.flush()
			x.wants()
		}
		// One run: it comes to the loop's begin again and again.
		for came := range hot + 3 {
			x.flush()
			x.run(state(0), 3*came)
			if x.has(0) != (came > hot) {
				t.Errorf("P10.3 Hot %d: within a run, behind %d comes a block: %v", hot, came, x.has(0))
			}
		}
	}
	o := roomy()
	o.Hot = math.MaxInt
	x := open(t, "never hot", o, m)
	x.run(state(0), 5000)
	x.wants()
}

// A block that is there, but has more instructions than are left, is not run, but is made.
func TestMadeThoughTooFewAreLeft(t *testing.T) {
	x := open(t, "too few left", roomy(), ground(code(inc(0), inc(0), inc(0), jmp8(-5))...))
	x.run(state(0), 1)
	x.wants(0)
	x.run(state(0), 3)
	x.wants(0, 1, 2)
	x.run(state(0), 9)
	// The last step of these begins at 0, of which there is a block of four.
	x.wants(0, 1, 2)
}

// What the options Opt, Most and Regs say is to be seen in the code.
func TestCode(t *testing.T) {
	m := ground(code(movi(1, 5), movi(1, 6), inc(1), api.Ins{Op: api.Alu, D: 2, S: 1}, dec(2), push(2), sys(0))...)
	codes := map[int]int{}
	for _, most := range []int{1, 3, 7, api.MaxBlock} {
		for _, regs := range []int{3, 8, 16} {
			for _, clean := range []bool{false, true} {
				o := roomy()
				o.Most, o.Regs, o.Opt = most, regs, clean
				x := open(t, "code", o, m)
				x.run(state(0), 1)
				b := lift.Block(m, 0, most)
				if clean {
					b = opt.Block(b)
				}
				want, _ := gen.Code(b, regs)
				if !slices.Equal(x.e.Cache().Words(), want) {
					t.Errorf("P10.3 %+v: words %x, want %x", o, x.e.Cache().Words(), want)
				}
				codes[len(want)]++
			}
		}
	}
	if len(codes) < 6 {
		t.Errorf("the codes are too much alike: %v", codes)
	}
}

// Words at the edge of a block's code, and of two; too few for any.
func TestRoom(t *testing.T) {
	m := ground(code(inc(0), jmp8(0x3d))...)
	m.Poke(0x40, code(inc(1), jmp8(-0x43)))
	o := roomy()
	x := open(t, "room for all", o, m)
	x.run(state(0), 4)
	x.wants(0, 0x40)
	both := x.e.Cache().Used()
	first, _ := x.e.Cache().Find(0x40)
	for words, want := range map[int][]uint32{
		1: nil, 2: nil, first - 1: {1, 0x41}, first: {0x40}, both - 1: {0x40}, both: {0, 0x40}, both + 1: {0, 0x40},
	} {
		o.Words = words
		x := open(t, "room", o, m)
		s, _, _ := x.run(state(0), 4)
		x.wants(want...)
		s, _, _ = x.run(s, 2)
		s, _, _ = x.run(s, 2000)
		if s.R[0] != 502 && s.R[0] != 501 {
			t.Errorf("P10.2 %d words: %+v", words, s)
		}
		if x.e.Cache().Used() > words {
			t.Errorf("P10.3 %d words: %d are used", words, x.e.Cache().Used())
		}
	}
}

// That the cache flushed all for a block does not make a place less hot; that the engine was flushed does.
func TestHotAndFlushes(t *testing.T) {
	m := ground(code(inc(0), jmp8(0x3d))...)
	m.Poke(0x40, code(inc(1), jmp8(-0x43)))
	o := roomy()
	o.Hot, o.Most = 3, 2
	b, _ := gen.Code(opt.Block(lift.Block(m, 0, 2)), o.Regs)
	o.Words = len(b)
	x := open(t, "one block at a time", o, m)
	s, _, _ := x.run(state(0), 12)
	x.wants()
	s, _, _ = x.run(s, 2)
	x.wants(0)
	s, _, _ = x.run(s, 2)
	x.wants(0x40)
	s, _, _ = x.run(s, 2)
	x.wants(0)
	x.flush()
	s, _, _ = x.run(s, 2)
	x.wants()
}

// Flush: no block, no page watched, nothing led to, and all goes on as before.
func TestFlush(t *testing.T) {
	m := ground(code(dec(0), jcc8(ifNot, -3), sys(1))...)
	each(t, "flush", m, func(x *trial) {
		x.flush()
		s, _, _ := x.run(state(0, 50), 40)
		x.flush()
		x.wants()
		if c := x.e.Cache(); c.Used() != 0 || len(c.Words()) != 0 {
			t.Errorf("P10.3 %+v: behind Flush %d words", x.o, c.Used())
		}
		x.poke(1, 0x15)
		x.protect(0, every-api.Write)
		x.protect(0, every)
		if x.m.Touched() {
			t.Errorf("P10.3 %+v: behind Flush a page is watched", x.o)
		}
		s, _, _ = x.run(s, 10)
		// A page that is told is not any more where there are no blocks.
		x.poke(1, 0x15)
		x.flush()
		if x.m.Touched() {
			t.Errorf("P10.3 %+v: behind Flush a page is told", x.o)
		}
		if s, stop, n := x.run(s, 1000); n != 51 || stop.Kind != api.StopSys || s.R[0] != 0 {
			t.Errorf("P10.2 %+v: behind Flush %+v, %v, %d", x.o, s, stop, n)
		}
	})
}

// ops: the instructions of the cache that lead, and those that leave.
func ops(x *trial) (leads, leaves int) {
	w := x.e.Cache().Words()
	for _, pc := range x.e.Cache().Places() {
		word, _ := x.e.Cache().Find(pc)
		for first := true; ; first = false {
			y, n, err := host.Decode(w, word)
			if err != api.OK || y.Op == api.HEnter && !first {
				break
			}
			switch y.Op {
			case api.HChain, api.HIfOn:
				leads++
			case api.HLeave, api.HIf:
				leaves++
			}
			word += n
		}
	}
	for _, e := range x.e.Cache().Table() {
		if e.At >= 0 {
			leads++
		}
	}
	return leads, leaves
}

// A loop that leads to itself, two blocks that lead to each other, and neither without Chain.
func TestChain(t *testing.T) {
	m := ground(code(dec(0), jcc8(ifNot, -3), alone(api.Brk))...)
	m.Poke(0x80, code(inc(1), jmp8(0x3d)))
	m.Poke(0xc0, code(dec(0), jcc8(ifNot, -0x43), jmp8(0x0d)))
	m.Poke(0xd2, code(sys(0)))
	for _, y := range []struct {
		what                  string
		pc                    uint32
		leads, leaves, places int
	}{
		{"to itself", 0, 1, 1, 1},
		{"to each other", 0x80, 2, 1, 2},
	} {
		for _, chain := range []bool{true, false} {
			o := roomy()
			o.Chain = chain
			x := open(t, y.what, o, m)
			x.run(state(y.pc, 1000), 60)
			leads, leaves := ops(x)
			want, wantLeaves := y.leads, y.leaves
			if !chain {
				want, wantLeaves = 0, y.leads+y.leaves
			}
			if leads != want || leaves != wantLeaves || len(x.e.Cache().Places()) != y.places {
				t.Errorf("P10.3 %s, Chain %v: %d lead, %d leave, blocks of %x", y.what, chain, leads, leaves, x.e.Cache().Places())
			}
		}
	}
}

// Jumps and returns by registers whose places share a slot of the table, and others.
func TestTable(t *testing.T) {
	// At 0x40 and at 0x48 R1 is made the other of both.
	m := ground(code(byReg(api.JmpR, 1))...)
	m.Poke(0x40, code(dec(0), movi(1, 0x48), jmp8(-0x48)))
	m.Poke(0x48, code(dec(0), movi(1, 0x40), jmp8(-0x50)))
	for _, slots := range []int{1, 2, 3, 7, 8, 16, 65536} {
		for _, chain := range []bool{true, false} {
			o := roomy()
			o.Slots, o.Chain = slots, chain
			x := open(t, "jumps by registers", o, m)
			s := state(0, 0, 0x40)
			for _, n := range []int{20, 1, 200} {
				s, _, _ = x.run(s, n)
			}
			noted := 0
			for i, e := range x.e.Cache().Table() {
				if e.At < 0 {
					continue
				}
				noted++
				if at, ok := x.e.Cache().Find(e.PC); !ok || at != e.At || int(e.PC)%slots != i {
					t.Errorf("P10.3 %d slots: the one of number %d is %v", slots, i, e)
				}
			}
			if want := noteWant(chain, slots); noted != want {
				t.Errorf("P10.3 %d slots, Chain %v: %d lead, want %d", slots, chain, noted, want)
			}
		}
	}
}

func noteWant(chain bool, slots int) int {
	switch {
	case !chain:
		return 0
	case 0x40%slots == 0x48%slots:
		return 1
	}
	return 2
}

// More instructions of the host than it does at once: it goes on behind them.
func TestFuel(t *testing.T) {
	const n = 700000
	m := ground(code(dec(0), jcc8(ifNot, -3))...)
	o := roomy()
	e, _ := engine.New(m, o)
	s, stop, done := e.Run(state(0, 0), n)
	want, wantStop, wantDone := interp.Run(ground(code(dec(0), jcc8(ifNot, -3))...), state(0, 0), n)
	if s != want || stop != wantStop || done != wantDone {
		t.Errorf("P10.2 a long loop: %+v, %v, %d", s, stop, done)
	}
	at, _ := e.Cache().Find(0)
	if _, l := e.Cache().Run(at, api.Context{}, m, n); l.Kind != api.LeftFuel {
		t.Errorf("the loop is too short for this test: %v", l)
	}
}

// Engines over memories of their own do not hang on each other.
func TestManyEngines(t *testing.T) {
	m := ground(code(inc(0), jmp8(-3))...)
	x, y := open(t, "one", roomy(), m), open(t, "another", roomy(), m)
	x.run(state(0), 10)
	y.wants()
	y.poke(0, decR0)
	s, _, _ := x.run(state(0), 10)
	if s.R[0] != 5 {
		t.Errorf("P0 the other's bytes count: %+v", s)
	}
	y.run(state(0), 10)
	y.flush()
	x.wants(0)
}

// Code that somebody else laid into the cache and that does nothing does not hold Run up.
func TestForeignBlocks(t *testing.T) {
	nothing := func(list ...api.Code) []uint32 {
		var w []uint32
		for _, x := range list {
			v, _ := host.Encode(x)
			w = append(w, v...)
		}
		return w
	}
	for what, w := range map[string][]uint32{
		"it leaves to itself": nothing(api.Code{Op: api.HEnter}, api.Code{Op: api.HLeave}),
		"it is stuck":         nothing(api.Code{Op: api.HEnter}, api.Code{Op: api.HMov}),
		"by a register":       nothing(api.Code{Op: api.HEnter}, api.Code{Op: api.HLi}, api.Code{Op: api.HLeaveT}),
	} {
		for _, chain := range []bool{true, false} {
			o := roomy()
			o.Chain = chain
			m := ground(code(inc(0), jmp8(-3))...)
			e, _ := engine.New(m, o)
			if _, err := e.Cache().Insert(0, nil, w); err != api.OK {
				t.Fatal(what)
			}
			if s, stop, n := e.Run(state(0), 4); s.R[0] != 2 || stop != (api.Stop{}) || n != 4 {
				t.Errorf("P0 %s: %+v, %v, %d", what, s, stop, n)
			}
		}
	}
}
