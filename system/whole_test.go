package system_test

import (
	"bytes"
	"slices"
	"testing"

	"crossgrain/api"
	"crossgrain/interp"
	"crossgrain/mem"
)

// The first: movi R1, 7; sys 0. And the chapter's: by 41.
func TestExampleExit(t *testing.T) {
	for _, k := range []byte{7, 41} {
		each(t, "exit", 0, []byte{0x41, k, 0, 0, 0, 0x05, 0}, func(x *trial) {
			x.does(0, 100, 2)
			if got := x.thread(0); got.Mode != api.Ended || got.Code != uint32(k) {
				t.Errorf("P11.3 %+v: %+v", x.o, got)
			}
		})
	}
}

// The second: the same state, by steps, by blocks at once, by none and in ten words.
func TestExampleLoop(t *testing.T) {
	list := code(movi(0, 1000), inc(1), dec(0), jcc8(ifNot, -4), sys(0))
	m := mem.New()
	m.Poke(0, list)
	m.Protect(0, every)
	want, _, n := interp.Run(m, api.State{R: [8]uint32{0: 5, 7: stack}}, 100000)
	once, never, ten := roomy(), roomy(), roomy()
	never.Words, ten.Words = 1, 10
	for _, o := range append(options(), once, never, ten) {
		x := set(t, "adds", o, 0, list)
		x.does(0, 100000, n)
		if got := x.thread(0); got.State != want || got.Code != 1000 || n != 3002 {
			t.Errorf("P11.2 %+v: %+v, want %+v", o, got, want)
		}
	}
}

// The third: a store into the number of the next instruction, straight and in a loop.
func TestExampleStoreAhead(t *testing.T) {
	// 0: movi R5, 100; 5: movi R4, 14; 10: store R5 at R4; 13: movi R6, 0; 18: add to R1; 20: dec R5; 21: jcc8 to 10; 23: sys 0
	list := code(movi(5, 100), movi(4, 14), store(2, 5, 4, 0), movi(6, 0), api.Ins{Op: api.Alu, O: api.Add, D: 1, S: 6}, dec(5), jcc8(ifNot, -13), sys(0))
	each(t, "a store ahead", 0, list, func(x *trial) {
		x.does(0, 3, 3)
		x.does(0, 1, 1)
		if got := x.thread(0).State.R[6]; got != 100 {
			t.Errorf("P11.2 %+v: R6 is %d", x.o, got)
		}
		x.does(0, 10000, 3+99*5+1)
		if got := x.thread(0); got.Code != 5050 || got.State.R[6] != 1 {
			t.Errorf("P11.2 %+v: %+v", x.o, got)
		}
	})
}

// The fourth: a load beyond the memory in the middle of a block.
func TestExampleLoadBeyond(t *testing.T) {
	list := code(movi(4, 0xfffe), movi(0, 1), alub(api.Cmp, 0, 2), load(4, 0, 4, 0), inc(0), inc(1), sys(0))
	each(t, "a load beyond", 0, list, func(x *trial) {
		x.load(0xff00, make([]byte, 256), api.Read)
		x.does(0, 100, 3)
		x.is(0, api.Thread{}, func(w *api.Thread) {
			*w = api.Thread{Mode: api.Dead, Stop: api.Stop{Kind: api.StopLoad, Arg: 0x10000}}
			w.State = api.State{R: [8]uint32{1, 0, 0, 0, 0xfffe, 0, 0, stack}, PC: 13, F: api.FN | api.FC}
		})
	})
}

// The fifth: a store into a page without rights; the program knows nothing of its handler.
func TestExampleHandler(t *testing.T) {
	plain := code(movi(4, bare), movi(5, 0x11223344), movi(0, 8), store(2, 5, 4, 6), load(4, 6, 4, 6), alub(api.Cmp, 0, 9), mov(1, 6), sys(0))
	// The handler pushes R0, for it is what back makes of R2.
	give := code(api.Ins{Op: api.Push, S: 0}, mov(1, 2), alub(api.Shr, 1, 8), movi(2, 3), sys(4), mov(1, 3), api.Ins{Op: api.Pop, D: 2}, sys(6))
	for _, o := range options() {
		x := set(t, "with rights", o, 0, slices.Concat(asks(5, 0, 0, 0), plain))
		x.load(bare, []byte{0}, 3)
		x.does(0, 100, 12)
		y := set(t, "with a handler", o, 0, slices.Concat(asks(5, handler, 0, 0), plain))
		y.load(handler, give, every)
		y.does(0, 100, 12+8)
		want, got := x.thread(0), y.thread(0)
		want.Handler = handler
		if got != want || got.Code != 0x11223344 || got.Mode != api.Ended {
			t.Errorf("P11.2 %+v: %+v, want %+v", o, got, want)
		}
		a, _ := x.s.Peek(bare, 256)
		b, _ := y.s.Peek(bare, 256)
		if !bytes.Equal(a, b) {
			t.Errorf("P11.2 %+v: the store is not done", o)
		}
	}
}

// The sixth: call and ret a hundred deep.
func TestExampleDeep(t *testing.T) {
	// 0: movi R0, 100; call 12; sys 0; 12: dec R0; jcc8 zero, 5 on; call 12; ret
	list := code(movi(0, 100), call(2), sys(0), dec(0), jcc8(ifZero, 5), call(-8), alone(api.Ret))
	each(t, "calls", 0, list, func(x *trial) {
		x.does(0, 100000, 1+1+3*100-1+100+1)
		if got := x.thread(0); got.Mode != api.Ended || got.State.R[7] != stack || got.State.R[0] != 0 {
			t.Errorf("P11.2 %+v: %+v", x.o, got)
		}
		noted := slices.ContainsFunc(x.e.Cache().Table(), func(e api.Entry) bool { return e.At >= 0 })
		if noted && !x.o.Chain || !noted && x.o == roomy() {
			t.Errorf("P11.2 %+v: the table leads somewhere: %v", x.o, noted)
		}
	})
}

// Two threads that each add 1 to a word by xadd, whichever goes on when.
func TestExampleSum(t *testing.T) {
	// 0: movi R4, data; movi R5, 50; 10: movi R2, 1; xadd; dec R5; jcc8 to 10; sys 0
	list := code(movi(4, data), movi(5, 50), movi(2, 1), at(api.Xadd, 2, 4, 0), dec(5), jcc8(ifNot, -11), sys(0))
	schedules := [][]int{{1, 1}, {2, 3}, {7, 1}, {1, 64}, {1000, 1000}, {0, 5}, {13, 0}, {3, 300}}
	for _, by := range schedules {
		each(t, "the sum", 0, list, func(x *trial) {
			x.start(0, stack, 0)
			for range 400 {
				x.run(0, by[0])
				x.run(1, by[1])
			}
			x.run(0, 1000)
			x.run(1, 1000)
			b, _ := x.s.Peek(data, 4)
			if !bytes.Equal(b, []byte{100, 0, 0, 0}) || x.thread(0).Mode != api.Ended || x.thread(1).Mode != api.Ended {
				t.Errorf("P11.2 %+v: by %v the sum is %x", x.o, by, b)
			}
		})
	}
}

// Without xadd, what is added between a load and its store is lost: threads do share one memory.
func TestSharedMemory(t *testing.T) {
	list := code(movi(4, data), load(4, 2, 4, 0), inc(2), store(2, 2, 4, 0), sys(0))
	each(t, "lost", 0, list, func(x *trial) {
		x.start(0, stack, 0)
		x.does(0, 2, 2)
		x.does(1, 100, 5)
		x.does(0, 100, 3)
		if b, _ := x.s.Peek(data, 4); b[0] != 1 {
			t.Errorf("P11.2 %+v: %x", x.o, b)
		}
	})
}

// A thread that joins itself.
func TestExampleJoinItself(t *testing.T) {
	each(t, "itself", 0, code(sys(7), mov(1, 0), sys(3)), func(x *trial) {
		x.does(0, 3, 3)
		if got := x.thread(0); got.State.R[0] != none || got.Mode != api.Ready {
			t.Errorf("P11.3 %+v: %+v", x.o, got)
		}
	})
}

// Code that one thread changes while another runs it, in the middle of its loop.
func TestChangedByAnother(t *testing.T) {
	// Thread 0 goes round: inc R1; inc R2; inc R3. Thread 1 makes a dec of the second.
	loop := code(inc(1), inc(2), inc(3), jmp8(-5))
	for ahead := range 9 {
		each(t, "changed by another", 0, loop, func(x *trial) {
			x.load(0x100, code(movi(4, 1), movi(5, 0x52), store(0, 5, 4, 0), sys(0)), every)
			x.start(0x100, stack, 0)
			x.does(0, 40+ahead, 40+ahead)
			x.does(1, 100, 4)
			was := x.thread(0).State.R[2]
			x.does(0, 40, 40)
			if got := x.thread(0).State.R[2]; got != was-10 {
				t.Errorf("P11.2 %+v: R2 is %x, it was %x", x.o, got, was)
			}
		})
	}
	// Thread 1 takes Run away from the page that thread 0 is in, and gives it again.
	for ahead := range 5 {
		each(t, "rights taken by another", 0, loop, func(x *trial) {
			x.load(0x100, slices.Concat(asks(4, 0, 3, 0), asks(4, 0, 7, 0)), every)
			x.start(0x100, stack, 0)
			x.start(0, stack, 0)
			x.does(0, 40+ahead, 40+ahead)
			x.does(2, 40+ahead, 40+ahead)
			x.does(1, 4, 4)
			x.does(0, 40, 0)
			x.does(1, 4, 4)
			x.does(2, 40, 40)
			got := x.thread(0)
			if place := uint32(ahead % 4); got.Mode != api.Dead || got.Stop != (api.Stop{Kind: api.StopFetch, Arg: place}) {
				t.Errorf("P11.3 %+v: %+v", x.o, got)
			}
		})
	}
}
