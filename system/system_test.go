package system_test

import (
	"bytes"
	"math"
	"slices"
	"testing"

	"crossgrain/api"
	"crossgrain/guest"
	"crossgrain/system"
)

// code: instructions, one behind the other.
func code(list ...api.Ins) []byte {
	var b []byte
	for _, x := range list {
		one, err := guest.Encode(x)
		if err != api.OK {
			panic("an instruction that has no bytes")
		}
		b = append(b, one...)
	}
	return b
}

func inc(d int) api.Ins             { return api.Ins{Op: api.Inc, D: d} }
func dec(d int) api.Ins             { return api.Ins{Op: api.Dec, D: d} }
func mov(d, s int) api.Ins          { return api.Ins{Op: api.Mov, D: d, S: s} }
func movi(d int, k uint32) api.Ins  { return api.Ins{Op: api.MovI, D: d, Imm: k} }
func jmp8(far int) api.Ins          { return api.Ins{Op: api.Jmp8, Imm: uint32(far)} }
func jcc8(o, far int) api.Ins       { return api.Ins{Op: api.Jcc8, O: o, Imm: uint32(far)} }
func call(far int) api.Ins          { return api.Ins{Op: api.Call, Imm: uint32(far)} }
func sys(k uint32) api.Ins          { return api.Ins{Op: api.Sys, Imm: k} }
func alone(op int) api.Ins          { return api.Ins{Op: op} }
func alub(o, d, k int) api.Ins      { return api.Ins{Op: api.AluB, O: o, D: d, Imm: uint32(k)} }
func at(op, d, s, far int) api.Ins  { return api.Ins{Op: op, D: d, S: s, Imm: uint32(far)} }
func load(o, d, s, far int) api.Ins { return api.Ins{Op: api.Load, O: o, D: d, S: s, Imm: uint32(far)} }
func store(o, d, s, far int) api.Ins {
	return api.Ins{Op: api.Store, O: o, D: d, S: s, Imm: uint32(far)}
}

// asks: a call of three registers.
func asks(which, r1, r2, r3 uint32) []byte {
	return code(movi(1, r1), movi(2, r2), movi(3, r3), sys(which))
}

// asked is how many bytes that has.
const asked = 17

const (
	ifNot  = 5 // the condition that the value is not 0
	ifZero = 4
	data   = 0x400 // two pages that may be read and written
	stack  = 0x5f0 // in the second of them
	fixed  = 0x600 // a page that may only be read
	bare   = 0x700 // one without rights
)

// roomy: options by which nothing is left out.
func roomy() api.Options {
	return api.Options{Words: 40000, Slots: 8, Most: api.MaxBlock, Regs: 8, Opt: true, Chain: true}
}

// options: of all sorts.
func options() []api.Options {
	var list []api.Options
	for k, words := range []int{1, 10, 60, 200, 40000, 40000} {
		for _, hot := range []int{0, 2} {
			list = append(list, api.Options{
				Words: words, Slots: 1 + 6*k, Most: []int{3, 1, 7, 2, 64, 20}[k], Regs: []int{5, 16, 3, 9, 4, 8}[k],
				Hot: hot, Opt: k%2 == 0, Chain: k != 3,
			})
		}
	}
	return append(list, roomy())
}

// set: a system with code from 0 on, pages of data, and thread 0, whose R0 is 5.
func set(t *testing.T, what string, o api.Options, limit int, code []byte) *trial {
	t.Helper()
	x := open(t, what, o, limit)
	x.load(0, code, every)
	x.load(data, make([]byte, 512), api.Read|api.Write)
	x.load(fixed, bytes.Repeat([]byte{1, 2, 3, 4}, 64), api.Read)
	x.start(0, stack, 5)
	return x
}

// each: such a system, by options of all sorts.
func each(t *testing.T, what string, limit int, code []byte, do func(x *trial)) {
	t.Helper()
	for _, o := range options() {
		do(set(t, what, o, limit, code))
	}
}

// thread: as the system tells it.
func (x *trial) thread(t int) api.Thread {
	x.t.Helper()
	y, err := x.s.Thread(t)
	if err != api.OK {
		x.t.Fatalf("P11.1 %s, %+v: Thread(%d): %d", x.what, x.o, t, err)
	}
	return y
}

// does: a Run of a thread does so many steps.
func (x *trial) does(t, n, want int) {
	x.t.Helper()
	if done, err := x.run(t, n); done != want || err != api.OK {
		x.t.Fatalf("P11.2 %s, %+v: Run(%d, %d): %d, %d, want %d", x.what, x.o, t, n, done, err, want)
	}
}

// is: a thread is as it was, but for what a test says.
func (x *trial) is(t int, was api.Thread, change func(w *api.Thread)) {
	x.t.Helper()
	change(&was)
	if got := x.thread(t); got != was {
		x.t.Fatalf("%s, %+v: behind call %d thread %d is %+v, want %+v", x.what, x.o, x.calls, t, got, was)
	}
}

// answers: the next step of a thread is a sys, behind which just what a test says
// is another; of the rest, other threads and what was written stay as they were.
func (x *trial) answers(t int, change func(w *api.Thread)) {
	x.t.Helper()
	was, out := x.thread(t), x.s.Out()
	var others []api.Thread
	for _, k := range x.others(t) {
		others = append(others, x.thread(k))
	}
	x.does(t, 1, 1)
	was.State.PC += 2
	x.is(t, was, change)
	for i, k := range x.others(t) {
		if i < len(others) {
			x.is(k, others[i], func(w *api.Thread) {})
		}
	}
	if got := x.s.Out(); !bytes.HasPrefix(got, out) {
		x.t.Fatalf("P11.1 %s, %+v: Out: %x, it was %x", x.what, x.o, got, out)
	}
}

func (x *trial) others(t int) []int {
	var list []int
	for k := range x.a.threads {
		if k != t {
			list = append(list, k)
		}
	}
	return list
}

// refuses: the next step is a sys that cannot be done.
func (x *trial) refuses(t int) {
	x.t.Helper()
	out, threads := x.s.Out(), len(x.a.threads)
	x.answers(t, func(w *api.Thread) { w.State.R[0] = none })
	if got := x.s.Out(); !bytes.Equal(got, out) {
		x.t.Fatalf("P11.3 %s, %+v: there was written %x, it was %x", x.what, x.o, got, out)
	}
	if _, err := x.s.Thread(threads); err != api.ErrArg {
		x.t.Fatalf("P11.3 %s, %+v: there is a thread %d", x.what, x.o, threads)
	}
}

func TestNew(t *testing.T) {
	wrong := map[string]api.Options{"nothing told at all": {}}
	for what, change := range map[string]func(o *api.Options){
		"Words 0": func(o *api.Options) { o.Words = 0 }, "Words past MaxCode": func(o *api.Options) { o.Words = api.MaxCode + 1 },
		"Slots 0": func(o *api.Options) { o.Slots = 0 }, "Slots 65537": func(o *api.Options) { o.Slots = 65537 },
		"Most 0": func(o *api.Options) { o.Most = 0 }, "Most past MaxBlock": func(o *api.Options) { o.Most = api.MaxBlock + 1 },
		"Regs 2": func(o *api.Options) { o.Regs = 2 }, "Regs 17": func(o *api.Options) { o.Regs = 17 },
		"Hot -1": func(o *api.Options) { o.Hot = -1 },
	} {
		o := roomy()
		change(&o)
		wrong[what] = o
	}
	for _, limit := range []int{math.MinInt, -2, -1, 0, 1, 255, 1 << 32, math.MaxInt} {
		s, err := system.New(roomy(), limit)
		if good := limit >= 0; (err == api.OK) != good || (s != nil) != good || !good && err != api.ErrArg {
			t.Errorf("New with room for %d: %v, %d", limit, s != nil, err)
		}
		for what, o := range wrong {
			if s, err := system.New(o, limit); s != nil || err != api.ErrArg {
				t.Errorf("New, %s, with room for %d: %v, %d", what, limit, s != nil, err)
			}
		}
	}
}

// What a new system has: zeroes, no rights, no threads, nothing written.
func TestNewIsEmpty(t *testing.T) {
	for _, o := range options() {
		x := open(t, "a new one", o, 100)
		if b, err := x.s.Peek(0, api.MemSize); err != api.OK || !bytes.Equal(b, make([]byte, api.MemSize)) {
			t.Errorf("New: Peek: %d bytes, %d", len(b), err)
		}
		for page := range api.Pages {
			if got := x.found(page); got&api.Run != 0 {
				t.Errorf("New: page %d has the rights %d", page, got)
			}
		}
		x.rightsAgree()
		if got := x.rights(0, 1, 253, 255); !slices.Equal(got, []int{0, 0, 0, 0}) {
			t.Errorf("New: rights %v", got)
		}
		for _, k := range []int{math.MinInt, -1, 0, 1, 15, 16, math.MaxInt} {
			if y, err := x.s.Thread(k); y != (api.Thread{}) || err != api.ErrArg {
				t.Errorf("New: Thread(%d): %+v, %d", k, y, err)
			}
			if n, err := x.s.Run(k, 1); n != 0 || err != api.ErrArg {
				t.Errorf("New: Run(%d): %d, %d", k, n, err)
			}
		}
		if b := x.s.Out(); len(b) != 0 {
			t.Errorf("New: Out: %x", b)
		}
	}
}

// The engine is one of these options, and it is by it that threads run.
func TestEngine(t *testing.T) {
	loop := code(inc(1), dec(0), jcc8(ifNot, -4), sys(0))
	for _, o := range options() {
		x := set(t, "a loop", o, 0, loop)
		if got := len(x.e.Cache().Table()); got != o.Slots {
			t.Errorf("Engine: a table of %d, want %d", got, o.Slots)
		}
		if len(x.e.Cache().Places()) != 0 {
			t.Error("Engine: there are blocks ahead of the first Run")
		}
		x.does(0, 100, 16)
		if made := len(x.e.Cache().Places()) > 0; made != (o.Words > 1) {
			t.Errorf("Engine %+v: blocks of %x", o, x.e.Cache().Places())
		}
		x.e.Flush()
		x.start(0, stack, 3)
		x.does(1, 100, 10)
		x.is(1, api.Thread{}, func(w *api.Thread) {
			*w = api.Thread{Mode: api.Ended, Code: 3, State: api.State{R: [8]uint32{1: 3, 7: stack}, PC: 6, F: api.FZ}}
		})
	}
}

func TestLoad(t *testing.T) {
	for _, y := range []struct {
		at, n, rights int
		err           api.Errno
	}{
		{0, 1, 0, api.OK}, {0, 1, 7, api.OK}, {0, 1, -1, api.ErrArg}, {0, 1, 8, api.ErrArg},
		{0, 1, math.MinInt, api.ErrArg}, {0, 1, math.MaxInt, api.ErrArg}, {0, 1, 1<<32 + 1, api.ErrArg},
		{0, 0, 0, api.OK}, {300, 0, 7, api.OK}, {511, 0, 7, api.OK}, {512, 0, 7, api.OK}, {65535, 0, 7, api.OK}, {65536, 0, 7, api.OK},
		{65537, 0, 7, api.ErrArg}, {-1, 0, 7, api.ErrArg}, {0, 0, 8, api.ErrArg}, {0, 0, -1, api.ErrArg},
		{255, 1, 3, api.OK}, {255, 2, 3, api.OK}, {256, 1, 3, api.OK}, {256, 256, 5, api.OK}, {256, 257, 5, api.OK}, {257, 256, 5, api.OK},
		{511, 258, 6, api.OK}, {511, 257, 6, api.OK}, {100, 10000, 1, api.OK},
		{65535, 1, 4, api.OK}, {65535, 2, 4, api.ErrArg}, {65280, 256, 2, api.OK}, {65280, 257, 2, api.ErrArg}, {65536, 1, 2, api.ErrArg},
		{0, 65536, 7, api.OK}, {0, 65537, 7, api.ErrArg}, {1, 65536, 7, api.ErrArg}, {-1, 1, 7, api.ErrArg}, {-1, 65536, 7, api.ErrArg}, {-5, 10, 7, api.ErrArg},
		{math.MinInt, 1, 7, api.ErrArg}, {math.MaxInt, 1, 7, api.ErrArg}, {math.MaxInt, 0, 7, api.ErrArg}, {1 << 32, 1, 7, api.ErrArg},
	} {
		x := open(t, "Load", roomy(), 0)
		x.load(0, bytes.Repeat([]byte{9}, 1000), api.Read|api.Run)
		b := make([]byte, y.n)
		for i := range b {
			b[i] = byte(i*7 + 1)
		}
		if err := x.load(y.at, b, y.rights); err != y.err {
			t.Errorf("P11.1 Load(%d, %d bytes, %d): %d, want %d", y.at, y.n, y.rights, err, y.err)
		}
		if y.err == api.OK {
			if got, err := x.s.Peek(y.at, y.n); err != api.OK || !bytes.Equal(got, b) {
				t.Errorf("P11.1 Load(%d, %d bytes, %d): the bytes are others", y.at, y.n, y.rights)
			}
		}
		clear(b)
		x.agrees("P11.1 Load, the bytes changed by who has them")
		x.rightsAgree()
	}
}

// The rights of just the pages in which bytes lie, by hand; and again, with others.
func TestLoadRights(t *testing.T) {
	x := open(t, "rights", roomy(), 0)
	wants := func(want ...int) {
		t.Helper()
		if got := x.rights(0, 1, 2, 3, 4); !slices.Equal(got, want) {
			t.Errorf("P11.1 rights %v, want %v", got, want)
		}
	}
	wants(0, 0, 0, 0, 0)
	x.load(256, make([]byte, 256), 3)
	wants(0, 3, 0, 0, 0)
	x.load(511, make([]byte, 2), 5)
	wants(0, 5, 5, 0, 0)
	x.load(512, nil, 7)
	x.load(515, []byte{}, 7)
	x.load(768, nil, 7)
	wants(0, 5, 5, 0, 0)
	x.load(700, make([]byte, 500), 0)
	wants(0, 5, 0, 0, 0)
	x.load(255, make([]byte, 514), 6)
	wants(6, 6, 6, 6, 0)
	x.load(257, make([]byte, 1), 1)
	wants(6, 1, 6, 6, 0)
	x.load(0, make([]byte, 1), 8)
	x.load(-1, make([]byte, 1), 7)
	wants(6, 1, 6, 6, 0)
}

// What is loaded over code that was run is run from then on; so are its rights.
func TestLoadOverCode(t *testing.T) {
	each(t, "a loop", 0, code(inc(1), jmp8(-3)), func(x *trial) {
		x.does(0, 40, 40)
		x.load(0, code(dec(1)), every)
		x.does(0, 40, 40)
		if got := x.thread(0).State.R[1]; got != 0 {
			t.Errorf("P11.1 %+v: R1 is %x", x.o, got)
		}
		x.load(255, []byte{0}, api.Read|api.Write)
		x.does(0, 40, 0)
		if got := x.thread(0); got.Mode != api.Dead || got.Stop != (api.Stop{Kind: api.StopFetch}) {
			t.Errorf("P11.1 %+v: %+v", x.o, got)
		}
	})
}

func TestPeek(t *testing.T) {
	x := open(t, "Peek", roomy(), 0)
	x.load(65532, []byte{1, 2, 3, 4}, 0)
	x.load(254, []byte{5, 6, 7}, 0)
	for _, y := range []struct {
		at, n int
		want  []byte
		err   api.Errno
	}{
		{65532, 4, []byte{1, 2, 3, 4}, api.OK}, {65535, 1, []byte{4}, api.OK}, {65536, 0, nil, api.OK}, {0, 0, nil, api.OK},
		{253, 5, []byte{0, 5, 6, 7, 0}, api.OK}, {65535, 2, nil, api.ErrArg}, {65536, 1, nil, api.ErrArg}, {65537, 0, nil, api.ErrArg},
		{-1, 1, nil, api.ErrArg}, {-1, 0, nil, api.ErrArg}, {0, -1, nil, api.ErrArg}, {0, 65537, nil, api.ErrArg}, {1, 65536, nil, api.ErrArg},
		{math.MaxInt, math.MaxInt, nil, api.ErrArg}, {math.MinInt, 1, nil, api.ErrArg}, {5, math.MinInt, nil, api.ErrArg}, {5, math.MaxInt, nil, api.ErrArg},
	} {
		if got, err := x.s.Peek(y.at, y.n); !bytes.Equal(got, y.want) || err != y.err {
			t.Errorf("P11.1 Peek(%d, %d): %x, %d, want %x, %d", y.at, y.n, got, err, y.want, y.err)
		}
	}
	b, _ := x.s.Peek(0, api.MemSize)
	clear(b)
	x.agrees("P11.1 Peek, the bytes changed by who has them")
}

func TestStart(t *testing.T) {
	x := open(t, "Start", roomy(), 0)
	for k := range uint32(16) {
		pc, sp, arg := 10*k, none-k, 1<<31+k
		got, err := x.start(pc, sp, arg)
		if got != int(k) || err != api.OK {
			t.Errorf("P11.1 Start: %d, %d, want %d", got, err, k)
		}
		if y := x.thread(got); y != (api.Thread{State: api.State{R: [8]uint32{0: arg, 7: sp}, PC: pc}, Mode: api.Ready}) {
			t.Errorf("P11.1 Start: thread %d is %+v", k, y)
		}
	}
	for range 3 {
		if k, err := x.start(1, 2, 3); k != 0 || err != api.ErrLarge {
			t.Errorf("P11.1 Start of a 17th: %d, %d", k, err)
		}
	}
	for _, k := range []int{math.MinInt, -1, 16, 17, 1 << 32, math.MaxInt} {
		if y, err := x.s.Thread(k); y != (api.Thread{}) || err != api.ErrArg {
			t.Errorf("P11.1 Thread(%d): %+v, %d", k, y, err)
		}
	}
	x.does(15, 1, 0)
	if y := x.thread(15); y.Mode != api.Dead || y.Stop != (api.Stop{Kind: api.StopFetch, Arg: 150}) {
		t.Errorf("P11.1 the last thread: %+v", y)
	}
	// One that is dead is one of the 16 still.
	if k, err := x.start(1, 2, 3); k != 0 || err != api.ErrLarge {
		t.Errorf("P11.1 Start of a 17th: %d, %d", k, err)
	}
}

// Out is handed out as a copy: who has it may change it, and what is written later is not in it.
func TestOut(t *testing.T) {
	each(t, "writes", 9, slices.Concat(asks(1, fixed, 3, 0), asks(1, fixed+1, 4, 0)), func(x *trial) {
		x.does(0, 4, 4)
		one, two := x.s.Out(), x.s.Out()
		if string(one) != "\x01\x02\x03" {
			t.Errorf("P11.1 Out: %x", one)
		}
		clear(one)
		_ = append(one, 99)
		x.does(0, 4, 4)
		if string(two) != "\x01\x02\x03" || string(x.s.Out()) != "\x01\x02\x03\x02\x03\x04\x01" {
			t.Errorf("P11.1 Out: %x, then %x", two, x.s.Out())
		}
	})
}

// Two systems, one beside the other: neither hangs on the other.
func TestSystemsAlone(t *testing.T) {
	add := slices.Concat(code(movi(4, data), at(api.Xadd, 0, 4, 0)), asks(1, data, 1, 0), code(jmp8(-27)))
	var list []*trial
	for _, o := range options() {
		list = append(list, set(t, "side by side", o, 300, add))
	}
	for n := range 30 {
		for _, x := range list {
			x.does(0, n, n)
		}
	}
}
