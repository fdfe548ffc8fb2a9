package system_test

import (
	"slices"
	"testing"

	"crossgrain/api"
)

const handler = 0x200

// ending is code whose last instruction stops.
type ending struct {
	what string
	code []byte
	stop api.Stop
}

// stopping: for each kind of stop but sys code that comes to it, where R4 is bare
// and R5 is fixed.
func stopping() []ending {
	return []ending{
		{"brk", code(alone(api.Brk)), api.Stop{Kind: api.StopBrk}},
		{"no instruction", []byte{0xff}, api.Stop{Kind: api.StopOp}},
		{"a register that there is not", []byte{0x70, 0x81}, api.Stop{Kind: api.StopOp}},
		{"load", code(load(4, 1, 4, 3)), api.Stop{Kind: api.StopLoad, Arg: bare + 3}},
		{"load over an edge", code(load(4, 1, 4, -2)), api.Stop{Kind: api.StopLoad, Arg: bare}},
		{"store", code(store(2, 1, 5, 1)), api.Stop{Kind: api.StopStore, Arg: fixed + 1}},
		{"store over an edge", code(store(2, 1, 5, -1)), api.Stop{Kind: api.StopStore, Arg: fixed}},
		{"push", code(mov(7, 4), api.Ins{Op: api.Push, S: 1}), api.Stop{Kind: api.StopStore, Arg: fixed + 0xfc}},
		{"xadd of what may be read", code(at(api.Xadd, 1, 5, 0)), api.Stop{Kind: api.StopStore, Arg: fixed}},
		{"by 0", code(movi(1, 0), api.Ins{Op: api.Alu, O: api.Divu, D: 2, S: 1}), api.Stop{Kind: api.StopDivide}},
		{"fetch", code(api.Ins{Op: api.JmpR, S: 4}), api.Stop{Kind: api.StopFetch, Arg: bare}},
		{"fetch beyond the memory", code(movi(1, 0x10000), api.Ins{Op: api.JmpR, S: 1}), api.Stop{Kind: api.StopFetch, Arg: 0x10000}},
	}
}

// begin: thread 0 has a handler (or none, of 0), numbers in its registers, and a
// flag, and goes on at 0x100.
func begin(to uint32) []byte {
	return code(movi(1, to), sys(5), movi(4, bare), movi(5, fixed), movi(6, 66), alub(api.Cmp, 6, 67), api.Ins{Op: api.Jmp, Imm: 0x100 - 30})
}

// stopped: thread 0 goes step by step up to where it stops: what it was just ahead of that.
func stopped(x *trial, list []byte) api.Thread {
	x.t.Helper()
	x.load(0x100, list, every)
	x.does(0, 7, 7)
	for range 5 {
		last := x.thread(0)
		if last.State.PC < 0x100 || last.State.F&api.FC == 0 || last.State.R[6] != 66 {
			x.t.Fatalf("%s: the state is too plain: %+v", x.what, last)
		}
		x.run(0, 1)
		if now := x.thread(0); now.Mode == api.Dead || now.In {
			return last
		}
	}
	x.t.Fatalf("%s: no stop", x.what)
	return api.Thread{}
}

// A stop without a handler: dead, with the stop, all else as it was.
func TestStopsWithout(t *testing.T) {
	for _, y := range stopping() {
		each(t, y.what, 0, begin(0), func(x *trial) {
			last := stopped(x, y.code)
			x.is(0, last, func(w *api.Thread) { w.Mode, w.Stop = api.Dead, y.stop })
			x.does(0, 100, 0)
		})
	}
}

// A stop with a handler that may not be run: what the handler finds stays as it is.
func TestStopsWith(t *testing.T) {
	for _, y := range stopping() {
		each(t, y.what, 0, begin(handler), func(x *trial) {
			last := stopped(x, y.code)
			x.is(0, last, func(w *api.Thread) {
				w.Saved, w.In = last.State, true
				w.State.R[1], w.State.R[2], w.State.R[3] = uint32(y.stop.Kind), y.stop.Arg, last.State.PC
				w.State.PC = handler
				w.Mode, w.Stop = api.Dead, api.Stop{Kind: api.StopFetch, Arg: handler}
			})
		})
	}
}

// The same with one that can be run: its first step is done in the Run that stopped.
func TestHandlerState(t *testing.T) {
	for _, y := range stopping() {
		each(t, y.what, 0, begin(handler), func(x *trial) {
			x.load(handler, code(inc(0)), every)
			last := stopped(x, y.code)
			x.is(0, last, func(w *api.Thread) {
				w.Saved, w.In = last.State, true
				w.State.R[1], w.State.R[2], w.State.R[3] = uint32(y.stop.Kind), y.stop.Arg, last.State.PC
				w.State.PC = handler + 1
				w.State.R[0]++
				w.State.F = last.State.F & api.FC
			})
		})
	}
}

// Each stop that comes in the handler: dead by it, still in the handler.
func TestStopInHandler(t *testing.T) {
	list := code(movi(1, 0x100), sys(5), movi(4, bare), movi(5, fixed), inc(6), alone(api.Brk))
	for _, y := range stopping() {
		each(t, y.what, 0, list, func(x *trial) {
			x.load(0x100, y.code, every)
			x.run(0, 100)
			got := x.thread(0)
			saved := api.State{R: [8]uint32{0, 0x100, 0, 0, bare, fixed, 1, stack}, PC: 18}
			if got.Mode != api.Dead || got.Stop != y.stop || !got.In || got.Saved != saved || got.Handler != 0x100 {
				t.Errorf("P11.2 %s, %+v: %+v", y.what, x.o, got)
			}
			x.does(0, 9, 0)
		})
	}
}

// Stops are no steps, neither those that a handler meets nor those that are the end.
func TestStopsAreNoSteps(t *testing.T) {
	// The handler goes on behind the brk.
	list := code(movi(1, 0x100), sys(5), alone(api.Brk), alone(api.Brk), inc(5), sys(0))
	for n := range 14 {
		each(t, "two brk", 0, list, func(x *trial) {
			x.load(0x100, code(at(api.Lea, 1, 3, 1), inc(6), sys(6)), every)
			x.does(0, n, min(n, 2+3+3+2))
			got := x.thread(0)
			if done := n >= 10; done != (got.Mode == api.Ended) {
				t.Errorf("P11.2 %+v: behind %d: %+v", x.o, n, got)
			}
			// With no step left the stop does not come about.
			if in := n == 3 || n == 4 || n == 6 || n == 7; got.In != in {
				t.Errorf("P11.2 %+v: behind %d: %+v", x.o, n, got)
			}
		})
	}
}

// A handler that goes back to the very instruction does it again: once all is well
// it is done, else the handler is come to again and again, up to n.
func TestBackToTheSame(t *testing.T) {
	list := code(movi(1, handler), sys(5), movi(4, bare), movi(5, 77), movi(0, 8), store(2, 5, 4, 6), load(4, 6, 4, 6), mov(1, 6), sys(0))
	give := code(mov(1, 2), alub(api.Shr, 1, 8), movi(2, 3), sys(4), mov(1, 3), movi(2, 9), sys(6))
	each(t, "gives the right", 0, list, func(x *trial) {
		x.load(handler, give, every)
		x.does(0, 100, 5+7+4)
		got := x.thread(0)
		want := api.Thread{State: api.State{R: [8]uint32{9, 77, 0, 0, bare, 77, 77, stack}, PC: 32}, Mode: api.Ended, Code: 77, Handler: handler}
		if got != want {
			t.Errorf("P11.2 %+v: %+v, want %+v", x.o, got, want)
		}
		if r := x.rights(6, 7, 8); !slices.Equal(r, []int{api.Read, 3, 0}) {
			t.Errorf("P11.3 %+v: rights %v", x.o, r)
		}
	})
	each(t, "gives nothing", 0, list, func(x *trial) {
		x.load(handler, code(mov(1, 3), mov(2, 0), sys(6)), every)
		x.does(0, 5, 5)
		for range 10 {
			x.does(0, 3, 3)
			if got := x.thread(0); got.In || got.State.PC != 22 || got.Mode != api.Ready || got.Saved != (api.State{}) {
				t.Fatalf("P11.2 %+v: %+v", x.o, got)
			}
		}
		x.does(0, 1000, 1000)
	})
}

// back: PC is R1, R0 is R2, all else as it was saved, whatever the handler did.
func TestBack(t *testing.T) {
	spoil := code(movi(0, 1), movi(3, 3), movi(4, 4), movi(5, 5), movi(6, 6), movi(7, 7), alub(api.Cmp, 0, 0), movi(1, 0x80), movi(2, 0xabcd), sys(6))
	each(t, "spoils all", 0, code(movi(1, handler), sys(5), movi(2, 22), movi(3, 33), movi(4, 44), movi(5, 55), movi(6, 66), alub(api.Cmp, 6, 67), alone(api.Brk)), func(x *trial) {
		x.load(handler, spoil, every)
		x.does(0, 8, 8)
		was := x.thread(0)
		x.does(0, 9, 9)
		if got := x.thread(0); !got.In || got.Saved != was.State {
			t.Fatalf("P11.2 %+v: %+v", x.o, got)
		}
		x.does(0, 1, 1)
		x.is(0, was, func(w *api.Thread) { w.State.PC, w.State.R[0] = 0x80, 0xabcd })
		// Outside of a handler again it cannot be done; and a stop is met once more.
		x.load(0x80, code(sys(6), alone(api.Brk)), every)
		x.refuses(0)
		was = x.thread(0)
		x.does(0, 10, 10)
		x.is(0, was, func(w *api.Thread) { w.State.PC, w.State.R[0] = 0x80, 0xabcd })
	})
	each(t, "outside", 0, slices.Concat(asks(6, 0x80, 9, 0), asks(5, handler, 0, 0), asks(6, 0x80, 9, 0)), func(x *trial) {
		x.does(0, 3, 3)
		x.refuses(0)
		x.does(0, 4+3, 4+3)
		x.refuses(0)
	})
}

// back to a place that cannot be run: the stop comes there, with the handler again.
func TestBackAnywhere(t *testing.T) {
	for _, to := range []uint32{0, bare, 0xffff, 0x10000, none} {
		each(t, "back anywhere", 0, code(movi(1, handler), sys(5), alone(api.Brk)), func(x *trial) {
			x.load(handler, code(movi(1, to), movi(2, none), sys(6)), every)
			x.does(0, 5, 5)
			x.is(0, api.Thread{}, func(w *api.Thread) {
				*w = api.Thread{Mode: api.Ready, Handler: handler, State: api.State{PC: to}}
				w.State.R = [8]uint32{none, handler, 7: stack}
			})
			x.does(0, 30, 30)
		})
	}
}

// The handler is one of its thread: others have none, or their own.
func TestHandlersOfThreads(t *testing.T) {
	each(t, "handlers of their own", 0, code(mov(1, 0), sys(5), alone(api.Brk)), func(x *trial) {
		x.load(handler, code(inc(6), sys(0)), every)
		x.load(handler+0x20, code(dec(6), sys(0)), every)
		x.start(0, stack, handler)
		x.start(0, stack, handler+0x20)
		x.start(0, stack, 0)
		for range 4 {
			for k := 3; k > 0; k-- {
				x.run(k, 1)
			}
		}
		for k, want := range []struct {
			mode int
			in   bool
			r6   uint32
		}{1: {api.Ended, true, 1}, 2: {api.Ended, true, none}, 3: {api.Dead, false, 0}} {
			if got := x.thread(k); k > 0 && (got.Mode != want.mode || got.In != want.in || got.State.R[6] != want.r6) {
				t.Errorf("P11.2 %+v: thread %d: %+v", x.o, k, got)
			}
		}
	})
}

// In its handler a thread may do all calls; what it does not change stays: it is
// in the handler while it waits, and when it ends.
func TestCallsInHandler(t *testing.T) {
	in := slices.Concat(asks(5, 0x123, 0, 0), asks(2, 0x300, stack, 3), asks(3, 1, 0, 0), asks(1, fixed, 2, 0), asks(0, 12, 0, 0))
	each(t, "calls in a handler", 10, code(movi(1, handler), sys(5), alone(api.Brk)), func(x *trial) {
		x.load(handler, in, every)
		x.load(0x300, asks(0, 31, 0, 0), every)
		x.does(0, 100, 2+4+4+4)
		got := x.thread(0)
		if got.Mode != api.Waiting || got.Waits != 1 || !got.In || got.Saved.PC != 7 || got.Handler != 0x123 {
			t.Fatalf("P11.3 %+v: %+v", x.o, got)
		}
		x.does(1, 100, 4)
		x.does(0, 100, 8)
		got = x.thread(0)
		if got.Mode != api.Ended || got.Code != 12 || !got.In || got.Saved.PC != 7 || got.State.R[0] != 2 {
			t.Errorf("P11.3 %+v: %+v", x.o, got)
		}
		if string(x.s.Out()) != "\x01\x02" {
			t.Errorf("P11.3 %+v: %x", x.o, x.s.Out())
		}
	})
}

// A handler that is set to another, or to none, while it is in: back leaves that so.
func TestHandlerChangedInside(t *testing.T) {
	for _, to := range []uint32{0, handler + 0x40} {
		each(t, "changed inside", 0, code(movi(1, handler), sys(5), alone(api.Brk), alone(api.Brk)), func(x *trial) {
			x.load(handler, code(mov(6, 3), movi(1, to), sys(5), at(api.Lea, 1, 6, 1), sys(6)), every)
			x.load(handler+0x40, code(sys(0)), every)
			x.does(0, 7, 7)
			if got := x.thread(0); got.In || got.Handler != to || got.State.PC != 8 {
				t.Fatalf("P11.3 %+v: %+v", x.o, got)
			}
			x.run(0, 9)
			got := x.thread(0)
			if to == 0 && (got.Mode != api.Dead || got.Stop.Kind != api.StopBrk || got.In) || to != 0 && (got.Mode != api.Ended || !got.In) {
				t.Errorf("P11.3 %+v: %+v", x.o, got)
			}
		})
	}
}
