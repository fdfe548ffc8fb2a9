package engine_test

import (
	"testing"

	"crossgrain/api"
	"crossgrain/mem"
)

// storing: each instruction that stores and does not end a block: R1 at the
// place that R2 has, or, by a push, just below that of R7.
func storing() map[string]api.Ins {
	return map[string]api.Ins{
		"store of a byte": store(0, 1, 2, 0), "store of two": store(1, 1, 2, 0), "store": store(2, 1, 2, 0),
		"xchg": at(api.Xchg, 1, 2, 0), "xadd": at(api.Xadd, 1, 2, 0), "cas": at(api.Cas, 1, 2, 0),
		"push": push(1), "pushf": alone(api.Pushf),
	}
}

// storingAt: a state from 0 on in which such an instruction stores there.
func storingAt(where uint32) api.State {
	s := state(0, 0x50505050, 0x51515151, where)
	s.R[7] = where + 4
	s.F = 15
	return s
}

// Into the instruction behind it, into itself, into those further on, and ahead
// of it, in a loop: whatever is there then is done.
func TestStoresIntoItself(t *testing.T) {
	for what, y := range storing() {
		list := code(inc(3), inc(4), y, inc(3), inc(4), inc(3), inc(4), inc(3), inc(4), jmp8(-20))
		list[len(list)-1] = byte(-len(list))
		for where := uint32(0); where < uint32(len(list)); where++ {
			by(t, some(), what, ground(list...), func(x *trial) {
				x.run(storingAt(where), 2)
				x.run(storingAt(where), 40)
			})
		}
	}
}

// The chapter's own words, by hand: of each way to store, what the next instruction is then.
func TestNextInstructionByHand(t *testing.T) {
	for what, y := range map[string]struct {
		x    []byte
		s    api.State
		want uint32 // R0 behind it, which was 9
	}{
		"store":  {code(store(2, 1, 2, 0), inc(0), inc(0), inc(0), inc(0)), state(0, 9, 0x50484848, 3), 9 + 3 - 1},
		"two":    {code(store(1, 1, 2, 0), inc(0), inc(0), inc(0), inc(0)), state(0, 9, 0x5050, 3), 9 - 2 + 2},
		"xchg":   {code(at(api.Xchg, 1, 2, 0), inc(0), inc(0), inc(0), inc(0)), state(0, 9, 0x48485048, 3), 9 + 3 - 1},
		"xadd":   {code(at(api.Xadd, 1, 2, 0), inc(0), inc(0), inc(0), inc(0)), state(0, 9, 0x00080008, 3), 9 + 2 - 2},
		"push":   {code(push(1), inc(0), inc(0), inc(0), inc(0)), state(0, 9, 0x50505050, 0, 0, 0, 0, 0, 5), 9 - 4},
		"pushf":  {code(alone(api.Pushf), inc(0), inc(0), inc(0), inc(0)), api.State{R: [8]uint32{0: 9, 7: 5}, F: 0}, 9},
		"itself": {code(store(0, 1, 2, 0), inc(0), inc(0), inc(0), inc(0)), state(0, 9, 0x01, 0), 9 + 4},
	} {
		m := ground(y.x...)
		each(t, what, m, func(x *trial) {
			s, stop, done := x.run(y.s, 5)
			if s.R[0] != y.want || stop != (api.Stop{}) || done != 5 {
				t.Errorf("P10.4 %s, %+v: %+v, %v, %d, want R0 %d", what, x.o, s, stop, done, y.want)
			}
		})
	}
}

// cas by hand: where what lies there is R0's the other is stored, and is the next instruction.
func TestCasIntoNext(t *testing.T) {
	m := ground(code(at(api.Cas, 1, 2, 0), inc(3), inc(3), inc(3), inc(3))...)
	each(t, "cas", m, func(x *trial) {
		s, _, n := x.run(state(0, 0x4b4b4b4b, 0x53535353, 3), 5)
		if s.R[3] != 0xfffffffc || n != 5 {
			t.Errorf("P10.4 %+v: %+v, %d", x.o, s, n)
		}
	})
}

// A call's push, behind which no block watches: into its own bytes, into those of
// the block that it goes to, and of one that leads to it, all of them chained.
func TestCallsPush(t *testing.T) {
	for _, op := range []int{api.Call, api.CallR} {
		// 0: inc R3; call 0x40; 0x40: inc R4; lea R7, R7 + 4; dec R0; jcc8 not zero, 0; sys 5
		first := code(inc(3), call(0x3a))
		if op == api.CallR {
			first = code(inc(3), movi(1, 0x40), byReg(api.CallR, 1))
		}
		m := ground(first...)
		m.Poke(0x40, code(inc(4), at(api.Lea, 7, 7, 4), dec(0), jcc8(ifNot, -0x47), sys(5)))
		for sp := uint32(2); sp < 0x50; sp++ {
			by(t, some(), "a call's push", m, func(x *trial) {
				// First with a stack elsewhere, so that the blocks are there and lead to each other.
				x.run(state(0, 12), 60)
				s := state(0, 12)
				s.R[7] = sp
				x.run(s, 30)
			})
		}
	}
}

// A block stores into another one that leads to it, and into one that is not made yet.
func TestStoresIntoOthers(t *testing.T) {
	// 0: inc R3, on to 0x100; 0x100: stores R1 at R2 if R0 is 3, back to 0.
	m := ground(code(inc(3), jmp(0x100-6))...)
	m.Poke(0x100, code(
		dec(0), api.Ins{Op: api.AluB, O: api.Cmp, D: 0, Imm: 3}, jcc8(ifNot, 3), store(0, 1, 2, 0),
		api.Ins{Op: api.AluB, O: api.Cmp, D: 0}, api.Ins{Op: api.Jcc, O: ifZero, Imm: 0x200 - 0x111}, jmp(-0x116)))
	m.Poke(0x200, code(inc(5), inc(5), inc(5), sys(0)))
	for where, want := range map[uint32][8]uint32{
		0:     {3: 20 - 3 - 3, 5: 3}, // into the block that leads to it
		0x200: {3: 20, 5: 1},         // into one that is not made yet
		0x300: {3: 17, 5: 0},         // nowhere: it stops
		0x400: {3: 20, 5: 3},         // into data
	} {
		each(t, "a store into another block", m, func(x *trial) {
			// dec R3, dec R5, as the place asks.
			b := map[uint32]uint32{0: 0x53, 0x200: 0x55}[where]
			s, stop, _ := x.run(state(0, 20, b, where), 1000)
			if s.R[3] != want[3] || s.R[5] != want[5] || stop.Kind != api.StopSys && where != 0x300 {
				t.Errorf("P10.4 a store into %x, %+v: %+v, %v", where, x.o, s, stop)
			}
			x.run(state(0, 20, b, where), 1000)
		})
	}
}

// A loop whose number is written again and again, which was run often before.
func TestStoresIntoAHotLoop(t *testing.T) {
	// 0: alub add R1, 1; dec R0; jcc8 not zero, 0; sys 0; 8: store of R2 at 2; jmp8 0
	m := ground(code(api.Ins{Op: api.AluB, D: 1, Imm: 1}, dec(0), jcc8(ifNot, -6), sys(0), store(0, 2, 3, 2), jmp8(-13))...)
	each(t, "a hot loop", m, func(x *trial) {
		sum := uint32(0)
		s := state(0, 100)
		for k := range uint32(6) {
			var stop api.Stop
			s, stop, _ = x.run(s, 1000)
			sum += 100 * max(k, 1)
			if s.R[1] != sum || stop.Kind != api.StopSys {
				t.Errorf("P10.4 %+v: %+v, %v, want R1 %d", x.o, s, stop, sum)
			}
			s.R[0], s.R[2], s.R[3], s.PC = 100, k+1, 0, 8
		}
	})
}

// Somebody else changes bytes between two calls: each byte of a loop, to others and to the same.
func TestBytesOfOthers(t *testing.T) {
	list := code(dec(0), inc(1), jcc8(ifNot, -4), alone(api.Brk))
	each(t, "bytes of others", ground(list...), func(x *trial) {
		s := state(0, 100000)
		for i := range list {
			for _, b := range []byte{0x51, noIns, list[i], list[i]} {
				x.poke(i, b)
				var stop api.Stop
				if s, stop, _ = x.run(s, 50); stop.Kind != api.Going {
					s.PC = 0
				}
			}
		}
	})
}

// The same bytes again: nothing is run that was made ahead of it, but made anew.
func TestSameBytesAgain(t *testing.T) {
	list := code(dec(0), inc(1), jcc8(ifNot, -4), alone(api.Brk))
	x := open(t, "the same bytes", roomy(), ground(list...))
	s, _, _ := x.run(state(0, 1000), 30)
	x.wants(0)
	used := x.e.Cache().Used()
	x.poke(0, list...)
	if !x.m.Touched() {
		t.Error("P10.4 the page of a block is not watched")
	}
	s, _, _ = x.run(s, 30)
	x.wants(0)
	if x.e.Cache().Used() != 2*used {
		t.Errorf("P10.4 the block was not made anew: %d words, then %d", used, x.e.Cache().Used())
	}
	x.poke(0)
	s, _, _ = x.run(s, 30)
	if x.e.Cache().Used() != 2*used {
		t.Error("P10.4 a block was made anew, for no byte was written")
	}
	x.poke(0x40, 1)
	x.run(s, 0)
	x.wants()
}

// Each right away and back again, of a page that holds code and data.
func TestRightsOfOthers(t *testing.T) {
	// It loads from its own page, stores there, and goes round.
	list := code(load(0, 1, 2, 0x40), store(0, 1, 2, 0x41), inc(3), jmp8(-9))
	for rights := range every + 1 {
		by(t, some(), "rights of others", ground(list...), func(x *trial) {
			s, _, _ := x.run(state(0), 100)
			x.protect(0, rights)
			s, stop, n := x.run(s, 100)
			want := api.Stop{}
			switch {
			case rights&api.Run == 0:
				want = api.Stop{Kind: api.StopFetch, Arg: s.PC}
			case rights&api.Read == 0:
				want = api.Stop{Kind: api.StopLoad, Arg: 0x40}
			case rights&api.Write == 0:
				want = api.Stop{Kind: api.StopStore, Arg: 0x41}
			}
			if stop != want || want.Kind == api.StopFetch && n != 0 {
				t.Errorf("P10.4 rights %d, %+v: %v, %d, want %v", rights, x.o, stop, n, want)
			}
			x.protect(0, every)
			if _, stop, n := x.run(s, 100); stop != (api.Stop{}) || n != 100 {
				t.Errorf("P10.4 all rights again, %+v: %v, %d", x.o, stop, n)
			}
			// Away and back between two calls.
			x.protect(0, rights)
			x.protect(0, every)
			x.run(s, 100)
		})
	}
}

// A page that is watched for several blocks: a change of one byte is one of all of them.
func TestSeveralBlocksOfAPage(t *testing.T) {
	m := ground(code(inc(0), jmp8(0x0d), alone(0))...)
	m.Poke(0x10, code(inc(1), jmp8(0x0d)))
	m.Poke(0x20, code(inc(2), jmp8(0x5d)))
	m.Poke(0x80, code(inc(3), jmp(0x100-0x86)))
	m.Poke(0x100, code(inc(4), jmp(-0x106)))
	x := open(t, "several blocks", roomy(), m)
	s, _, _ := x.run(state(0), 50)
	x.wants(0, 0x10, 0x20, 0x80, 0x100)
	x.poke(0x11, 0x06)
	x.run(s, 0)
	x.wants(0x100)
	s, _, _ = x.run(s, 50)
	x.wants(0, 0x10, 0x20, 0x80, 0x100)
	x.poke(0x100, 0x54)
	x.run(s, 0)
	x.wants(0, 0x10, 0x20, 0x80)
	// Each again, by options of all sorts.
	each(t, "several blocks", m, func(x *trial) {
		s := state(0)
		for _, at := range []int{0, 0x10, 0x20, 0x80, 0x100} {
			s, _, _ = x.run(s, 30)
			x.poke(at, byte(0x50+at%5))
			s, _, _ = x.run(s, 30)
			x.poke(at, byte(0x48+at%3))
		}
	})
}

// A block whose bytes lie in two pages, and in three: a change of each counts.
func TestPagesOfABlock(t *testing.T) {
	var three []api.Ins
	for range 60 {
		three = append(three, movi(1, 7))
	}
	three = append(three, inc(0), jmp(-306))
	for what, y := range map[string]struct {
		at   int
		list []byte
	}{
		"two pages":             {0xfe, code(inc(0), inc(1), inc(2), jmp8(-5))},
		"an instruction in two": {0xfd, code(movi(1, 7), inc(0), jmp8(-8))},
		"three pages":           {0xf0, code(three...)},
		"up to a page's end":    {0xfb, code(inc(0), inc(1), inc(2), jmp8(-5))},
		"from a page's begin":   {0x100, code(inc(0), inc(1), inc(2), jmp8(-5))},
	} {
		last := (y.at + len(y.list) - 1) / api.PageSize
		m := ground()
		m.Poke(y.at, y.list)
		for page := y.at / api.PageSize; page <= last; page++ {
			by(t, some(), what, m, func(x *trial) {
				s, _, _ := x.run(state(uint32(y.at)), 200)
				for range 2 {
					x.protect(page, api.Read)
					s, _, _ = x.run(s, 70)
					x.protect(page, every)
					s, _, _ = x.run(s, 70)
				}
				// The last byte of it there, and the first of the page behind.
				end := min((page+1)*api.PageSize, y.at+len(y.list))
				was, _ := x.m.Peek(end-1, 1)
				x.poke(end-1, was[0]^1)
				s, _, _ = x.run(s, 70)
				x.poke(end-1, was...)
				x.run(s, 70)
			})
		}
	}
}

// Pages in which no byte of a block lies are not watched.
func TestPagesBesideABlock(t *testing.T) {
	m := ground()
	m.Poke(0x100, code(inc(0), jmp8(-3)))
	x := open(t, "beside", roomy(), m)
	s, _, _ := x.run(state(0x100), 10)
	for page := range api.Pages {
		if page != 1 {
			x.poke(page*api.PageSize, 0)
			x.poke(page*api.PageSize+255, 0)
		}
	}
	if x.m.Touched() {
		t.Error("P10.4 a page without a block is watched")
	}
	x.run(s, 10)
	x.wants(0x100)
}

// A block that ends ahead of what can't be fetched or decoded goes on there when it can.
func TestBlockBeforeNothing(t *testing.T) {
	m := ground()
	m.Poke(0x2fe, code(inc(0), inc(1)))
	m.Poke(0x300, code(inc(2), jmp8(-5)))
	m.Poke(0x40, []byte{incR0, noIns, 0x4a, 1})
	each(t, "a page that may not be run yet", m, func(x *trial) {
		for range 3 {
			if s, stop, n := x.run(state(0x2fe), 20); n != 2 || stop != (api.Stop{Kind: api.StopFetch, Arg: 0x300}) || s.PC != 0x300 {
				t.Errorf("P10.2 %+v: %+v, %v, %d", x.o, s, stop, n)
			}
			x.run(state(0x40), 20)
		}
		x.protect(3, api.Run)
		x.poke(0x41, 0x49)
		for range 3 {
			if s, stop, n := x.run(state(0x2fe), 20); n != 20 || stop != (api.Stop{}) || s.R[2] != 5 {
				t.Errorf("P10.4 %+v: %+v, %v, %d", x.o, s, stop, n)
			}
			if s, stop, n := x.run(state(0x40), 20); n != 3 || stop.Kind != api.StopBrk || s.R[2] != 1 {
				t.Errorf("P10.4 %+v: %+v, %v, %d", x.o, s, stop, n)
			}
		}
	})
}

// A block up to the memory's last byte.
func TestEndOfMemory(t *testing.T) {
	m := ground()
	// The last byte is how far jmp8 goes, and, come to from 0xffe0, inc R2.
	m.Poke(0xfffa, code(inc(0), jcc8(ifNot, -3), inc(1), jmp8(0x4a)))
	m.Poke(0xffe0, code(inc(3), jmp8(0x1c)))
	each(t, "the end of memory", m, func(x *trial) {
		s, stop, n := x.run(state(0xfffa, 0xfffffff0), 100)
		if n != 34 || stop != (api.Stop{Kind: api.StopFetch, Arg: 0x1004a}) || s.R[1] != 1 {
			t.Errorf("P10.2 %+v: %+v, %v, %d", x.o, s, stop, n)
		}
		for range 3 {
			s, stop, n = x.run(state(0xffe0), 3)
			if n != 3 || stop != (api.Stop{}) || s.PC != 0x10000 || s.R[2] != 1 {
				t.Errorf("P10.2 %+v: %+v, %v, %d", x.o, s, stop, n)
			}
		}
		x.poke(0xffff, 0x52)
		s, stop, n = x.run(state(0xffe0), 4)
		if n != 3 || stop != (api.Stop{Kind: api.StopFetch, Arg: 0x10000}) || s.R[2] != 0xffffffff {
			t.Errorf("P10.4 %+v: %+v, %v, %d", x.o, s, stop, n)
		}
	})
}

// Each block is right from many contexts, with many lefts, by the cache's own Run too.
func TestBlocksByTheHost(t *testing.T) {
	m := ground(code(dec(0), load(4, 1, 6, 0), store(2, 1, 5, 4), jcc8(ifNot, 3), sys(3), alone(0), push(1), alone(api.Pushf),
		api.Ins{Op: api.Alu, O: api.Divu, D: 1, S: 2}, call(-25), alone(api.Ret))...)
	each(t, "by the host", m, func(x *trial) {
		s := state(0, 20, 1, 1, 0, 0, 0x400, 0x410)
		for _, n := range []int{10, 50, 7} {
			s, _, _ = x.run(s, n)
			for k := range uint32(8) {
				c := api.Context{0: k % 3, 1: k, 2: k % 2, 5: 0x400 - k, 6: 0x6fa + k, 7: 12 * k, 8: k, 9: k, 11: k}
				x.right(c, 1)
				for _, pc := range x.e.Cache().Places() {
					at, _ := x.e.Cache().Find(pc)
					x.holds(pc, c, 20, func(m *mem.Memory) (api.Context, api.Left) { return x.e.Cache().Run(at, c, m, 20) })
				}
			}
			s.PC = 0
		}
		if x.o.Words == 40000 && x.o.Hot == 0 && (x.lefts[api.LeftStop] == 0 || x.lefts[api.LeftShort] == 0 || x.lefts[api.LeftOn] == 0) {
			t.Errorf("the host was left too seldom: %v", x.lefts)
		}
	})
}

// A loop that pushes and pops in its own page: each push is a change of its bytes.
func TestStackInCode(t *testing.T) {
	m := ground(code(push(0), push(1), dec(0), api.Ins{Op: api.Pop, D: 2}, api.Ins{Op: api.Pop, D: 3}, jcc8(ifNot, -7), sys(0))...)
	each(t, "a stack in the code's page", m, func(x *trial) {
		s := state(0, 30, 7)
		s.R[7] = 0xf0
		s, stop, n := x.run(s, 1000)
		if s.R != [8]uint32{1: 7, 2: 7, 3: 1, 7: 0xf0} || n != 30*6+1 || stop.Kind != api.StopSys {
			t.Errorf("P10.2 %+v: %+v, %v, %d", x.o, s, stop, n)
		}
	})
}
