package system_test

import (
	"math"
	"slices"
	"testing"

	"crossgrain/api"
)

func TestRunWrong(t *testing.T) {
	each(t, "a loop", 0, code(inc(1), jmp8(-3)), func(x *trial) {
		x.start(0, stack, 1)
		for _, k := range []int{math.MinInt, -1, 0, 1, 2, 15, 16, 1 << 32, math.MaxInt} {
			for _, n := range []int{math.MinInt, -1, 0, 1, 7} {
				done, err := x.run(k, n)
				if good := n >= 0 && (k == 0 || k == 1); good && (done != n || err != api.OK) || !good && (done != 0 || err != api.ErrArg) {
					t.Errorf("P11.2 Run(%d, %d): %d, %d", k, n, done, err)
				}
			}
		}
	})
}

// Steps up to n and none more, wherever in a block, and wherever a sys or a stop is.
func TestRunStopsAtTheStep(t *testing.T) {
	// Eight steps, five of them ahead of the sys, and a brk.
	list := code(inc(1), inc(2), inc(3), inc(4), inc(5), sys(7), inc(1), inc(2), alone(api.Brk))
	for n := range 12 {
		each(t, "n steps", 0, list, func(x *trial) {
			x.does(0, n, min(n, 8))
			y := x.thread(0)
			want := api.Thread{State: api.State{PC: uint32(n)}, Mode: api.Ready}
			want.State.R = [8]uint32{5, 0, 0, 0, 0, 0, 0, stack}
			for i := 1; i <= min(n, 5); i++ {
				want.State.R[i] = 1
			}
			if n > 5 {
				// The sys is done with the sixth step, and has two bytes.
				want.State.R[0] = 0
				want.State.PC++
			}
			for i := 1; i <= min(n-6, 2); i++ {
				want.State.R[i] = 2
			}
			if n > 8 {
				// The brk is no step: it comes about only where steps are left for it.
				want.State.PC = 9
				want.Mode, want.Stop = api.Dead, api.Stop{Kind: api.StopBrk}
			}
			if y != want {
				t.Errorf("P11.2 %+v: Run by %d: %+v, want %+v", x.o, n, y, want)
			}
		})
	}
}

// The same steps, however they are cut into runs.
func TestRunInPieces(t *testing.T) {
	list := slices.Concat(code(movi(4, data), movi(5, 200)), code(at(api.Xadd, 0, 4, 0), sys(7), inc(0), dec(5), jcc8(ifNot, -9), sys(0)))
	for _, by := range []int{1, 2, 3, 5, 7, 64, 999} {
		each(t, "a loop of five", 0, list, func(x *trial) {
			done := 0
			for x.thread(0).Mode == api.Ready {
				n, _ := x.run(0, by)
				done += n
				if n < by && x.thread(0).Mode == api.Ready {
					t.Fatalf("P11.2 %+v: Run by %d does %d", x.o, by, n)
				}
			}
			if done != 2+200*5+1 {
				t.Errorf("P11.2 %+v: %d steps by %d", x.o, done, by)
			}
			if b, _ := x.s.Peek(data, 1); b[0] != byte(5+199) {
				t.Errorf("P11.2 %+v: the sum is %d", x.o, b[0])
			}
		})
	}
}

// A thread at its end, and one that waits for one that is not, do nothing.
func TestRunOfNotReady(t *testing.T) {
	same := func(x *trial, k int) {
		t.Helper()
		was := x.thread(k)
		for _, n := range []int{0, 1, 100} {
			x.does(k, n, 0)
			x.is(k, was, func(w *api.Thread) {})
		}
		if done, err := x.run(k, -1); done != 0 || err != api.ErrArg {
			t.Errorf("P11.2 Run of thread %d by -1: %d, %d", k, done, err)
		}
	}
	each(t, "ended", 0, code(movi(1, 9), sys(0), inc(1)), func(x *trial) {
		x.does(0, 100, 2)
		same(x, 0)
	})
	each(t, "dead", 0, code(inc(1), alone(api.Brk), inc(1)), func(x *trial) {
		x.does(0, 100, 1)
		same(x, 0)
	})
	each(t, "waiting", 0, code(movi(1, 1), sys(3), inc(1)), func(x *trial) {
		x.start(0, stack, 1)
		x.does(0, 100, 2)
		same(x, 0)
	})
}

// How a thread that waits is woken: by the next Run, even by none steps; by join itself.
func TestWaking(t *testing.T) {
	for _, end := range []struct {
		what string
		code []byte
		r0   uint32 // of who waited
		mode int
		n    int
	}{
		{"an ended one", code(movi(1, 0x12345678), sys(0)), 0x12345678, api.Ended, 2},
		{"one that ended with 0", code(movi(1, 0), sys(0)), 0, api.Ended, 2},
		{"one that ended with all bits", code(movi(1, none), sys(0)), none, api.Ended, 2},
		{"a dead one", code(movi(1, 7), alone(api.Brk)), none, api.Dead, 1},
	} {
		each(t, end.what, 0, code(movi(1, 1), sys(3), inc(2), sys(0)), func(x *trial) {
			x.load(0x100, end.code, every)
			x.start(0x100, stack, 0)
			x.does(0, 100, 2)
			waits := x.thread(0)
			x.is(0, api.Thread{}, func(w *api.Thread) {
				*w = api.Thread{State: api.State{R: [8]uint32{5, 1, 7: stack}, PC: 7}, Mode: api.Waiting, Waits: 1}
			})
			x.does(0, 100, 0)
			x.is(0, waits, func(w *api.Thread) {})
			// It is not woken by the other's end, but by its own Run.
			x.does(1, 100, end.n)
			if got := x.thread(1).Mode; got != end.mode {
				t.Fatalf("P11.2 %s: the mode is %d", end.what, got)
			}
			x.is(0, waits, func(w *api.Thread) {})
			x.does(0, 0, 0)
			x.is(0, waits, func(w *api.Thread) { w.Mode, w.Waits, w.State.R[0] = api.Ready, 0, end.r0 })
			x.does(0, 1, 1)
			x.does(0, 100, 1)
			if got := x.thread(0); got.Mode != api.Ended || got.State.R[0] != end.r0 || got.State.R[2] != 1 {
				t.Errorf("P11.2 %s, %+v: %+v", end.what, x.o, got)
			}
			// By join itself: it goes on at once.
			x.start(0, stack, 77)
			x.does(2, 2, 2)
			x.is(2, api.Thread{}, func(w *api.Thread) {
				*w = api.Thread{State: api.State{R: [8]uint32{end.r0, 1, 7: stack}, PC: 7}, Mode: api.Ready}
			})
			x.does(2, 100, 2)
		})
		// By the Run that then goes on.
		each(t, end.what, 0, code(movi(1, 1), sys(3), inc(2), sys(0)), func(x *trial) {
			x.load(0x100, end.code, every)
			x.start(0x100, stack, 0)
			x.does(0, 2, 2)
			x.does(1, 100, end.n)
			x.does(0, 100, 2)
			if got := x.thread(0); got.Mode != api.Ended || got.State.R[0] != end.r0 {
				t.Errorf("P11.2 %s, %+v: %+v", end.what, x.o, got)
			}
		})
	}
}

// Threads that wait for each other wait for good; so does a third that waits for
// one of them.
func TestWaitingRound(t *testing.T) {
	each(t, "round", 0, code(movi(1, 1), sys(3), sys(0)), func(x *trial) {
		x.load(0x100, code(mov(1, 0), sys(3), sys(0)), every)
		x.start(0x100, stack, 0)
		x.start(0x100, stack, 1)
		for range 3 {
			for k := range 3 {
				x.run(k, 100)
			}
		}
		for k, want := range []int{1, 0, 1} {
			if got := x.thread(k); got.Mode != api.Waiting || got.Waits != want {
				t.Errorf("P11.2 %+v: thread %d: %+v", x.o, k, got)
			}
		}
	})
}

// A row of threads, each waiting for the one behind it, ends from behind.
func TestWaitingRow(t *testing.T) {
	// Each waits for thread R0, and ends with one more than that one's code.
	each(t, "a row", 0, code(mov(1, 0), sys(3), mov(1, 0), inc(1), sys(0)), func(x *trial) {
		x.load(0x100, asks(0, 40, 0, 0), every)
		for k := 1; k < 15; k++ {
			x.start(0, stack, uint32(k+1))
		}
		x.start(0x100, stack, 0)
		for k := range 15 {
			x.does(k, 100, 2)
		}
		for k := 15; k >= 0; k-- {
			x.run(k, 100)
		}
		for k := range 16 {
			// Thread 0 waits for thread 5.
			want := uint32(40 + 15 - k)
			if k == 0 {
				want = 40 + 15 - 5 + 1
			}
			if got := x.thread(k); got.Mode != api.Ended || got.Code != want {
				t.Errorf("P11.2 %+v: thread %d: %+v, want the code %d", x.o, k, got, want)
			}
		}
	})
}
