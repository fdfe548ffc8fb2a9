package system_test

import (
	"bytes"
	"math"
	"slices"
	"testing"

	"crossgrain/api"
)

// calling: thread 0 just ahead of a call.
func calling(t *testing.T, what string, limit int, which, r1, r2, r3 uint32, do func(x *trial)) {
	t.Helper()
	each(t, what, limit, slices.Concat(asks(which, r1, r2, r3), code(inc(6), inc(6))), func(x *trial) {
		x.does(0, 3, 3)
		do(x)
	})
}

// gives: a call that can be done, and changes R0 alone.
func (x *trial) gives(t int, r0 uint32) {
	x.t.Helper()
	x.answers(t, func(w *api.Thread) { w.State.R[0] = r0 })
}

func TestExit(t *testing.T) {
	for _, r1 := range []uint32{0, 1, 41, 1 << 31, none} {
		calling(t, "exit", 0, 0, r1, 2, 3, func(x *trial) {
			x.answers(0, func(w *api.Thread) { w.Mode, w.Code = api.Ended, r1 })
			if got := x.thread(0); got.State.R[0] != 5 {
				t.Errorf("P11.3 exit: R0 is %x", got.State.R[0])
			}
			x.does(0, 100, 0)
		})
	}
}

func TestWrite(t *testing.T) {
	for _, y := range []struct {
		what  string
		limit int
		from  uint32
		n     uint32
		done  bool
	}{
		{"none", 0, fixed, 0, true}, {"none of what may not be read", 10, bare, 0, true}, {"none from beyond the memory", 10, none, 0, true},
		{"one", 1, fixed, 1, true}, {"one without room", 0, fixed, 1, false}, {"one too many", 3, fixed, 4, false}, {"just as many", 4, fixed, 4, true},
		{"256", 1000, fixed, 256, true}, {"256 in just as much room", 256, fixed, 256, true}, {"256 in less", 255, fixed, 256, false},
		{"257", 1000, data, 257, false}, {"257 of what may not be read", 1000, bare, 257, false}, {"256 over an edge", 1000, data + 100, 256, true},
		{"257 in all room that there may be", math.MaxInt, data, 257, false}, {"256 in that", math.MaxInt, data, 256, true},
		{"many", math.MaxInt, data, 1 << 31, false}, {"the most", math.MaxInt, data, none, false}, {"none by 8 bits", 1000, data, 1 << 8, true}, {"none by 16 bits", 1000, data, 1 << 16, false},
		{"from a page without Read", 1000, bare, 1, false}, {"over an edge to one", 1000, bare - 1, 2, false}, {"up to it", 1000, bare - 2, 2, true},
		{"over an edge from one", 1000, 0x3ff, 2, false}, {"from behind it", 1000, 0x400, 2, true},
		{"of the code", 1000, 0, asked, true}, {"of one that may be written and run", 1000, 0x800, 1, false},
		{"up to the end", 1000, 0xfffe, 2, true}, {"beyond the end", 1000, 0xfffe, 3, false}, {"from beyond the end", 1000, 0x10000, 1, false},
		{"of 256 up to the end", 1000, 0xff00, 256, true}, {"of 256 beyond it", 1000, 0xff01, 256, false},
		{"round to the code", 1000, none, 2, false}, {"from far beyond", 1000, 1 << 31, 1, false}, {"by 16 bits", 1000, 1<<16 + fixed, 1, false},
	} {
		each(t, y.what, y.limit, asks(1, y.from, y.n, 7), func(x *trial) {
			x.load(0x800, []byte{1, 2}, api.Write|api.Run)
			x.load(0xff00, bytes.Repeat([]byte{7, 8}, 128), api.Read)
			x.load(data, bytes.Repeat([]byte{9, 8, 7}, 170), api.Read|api.Write)
			x.does(0, 3, 3)
			if !y.done {
				x.refuses(0)
				return
			}
			x.gives(0, y.n)
			want := []byte(nil)
			if y.n > 0 {
				want, _ = x.s.Peek(int(y.from), int(y.n))
			}
			if got := x.s.Out(); !bytes.Equal(got, want) {
				t.Errorf("P11.3 write, %s: %x, want %x", y.what, got, want)
			}
		})
	}
}

// Writes one behind the other, by two threads, up to just as much as there is room for.
func TestWriteRoom(t *testing.T) {
	list := slices.Concat(asks(1, fixed, 3, 0), asks(1, fixed+2, 4, 0), asks(1, fixed, 4, 0), asks(1, fixed, 3, 0), asks(1, fixed, 1, 0), asks(1, fixed, 0, 0))
	each(t, "room for ten", 10, list, func(x *trial) {
		x.start(3*asked, stack, 0)
		for _, y := range []struct {
			thread int
			r0     uint32
			out    string
		}{
			{0, 3, "\x01\x02\x03"}, {0, 4, "\x01\x02\x03\x03\x04\x01\x02"}, {0, none, ""}, {1, 3, "\x01\x02\x03\x03\x04\x01\x02\x01\x02\x03"},
			{1, none, ""}, {0, none, ""}, {0, none, ""}, {0, 0, ""}, {1, 0, ""},
		} {
			was := string(x.s.Out())
			x.does(y.thread, 4, 4)
			if y.out == "" {
				y.out = was
			}
			if got := x.thread(y.thread).State.R[0]; got != y.r0 || string(x.s.Out()) != y.out {
				t.Errorf("P11.3 %+v: R0 is %x, want %x; %x, want %x", x.o, got, y.r0, x.s.Out(), y.out)
			}
		}
	})
}

func TestSpawn(t *testing.T) {
	calling(t, "spawn", 0, 2, 0xdead, 0xbeef, none, func(x *trial) {
		x.gives(0, 1)
		x.is(1, api.Thread{}, func(w *api.Thread) {
			*w = api.Thread{State: api.State{R: [8]uint32{0: none, 7: 0xbeef}, PC: 0xdead}, Mode: api.Ready}
		})
		// It is a thread like others, and who spawned it goes on where it was.
		x.does(0, 1, 1)
		x.does(1, 5, 0)
	})
	// Of one with a handler, and flags: the new one has neither.
	list := slices.Concat(asks(5, 0x99, 0, 0), code(alub(api.Cmp, 0, 1)), asks(2, 3, 4, 5))
	each(t, "spawn by one with a handler", 0, list, func(x *trial) {
		x.does(0, 9, 9)
		x.is(1, api.Thread{}, func(w *api.Thread) {
			*w = api.Thread{State: api.State{R: [8]uint32{0: 5, 7: 4}, PC: 3}, Mode: api.Ready}
		})
	})
	each(t, "spawn without end", 0, slices.Concat(asks(2, 0, stack, 9), code(jmp8(-19))), func(x *trial) {
		for k := 1; k < 15; k++ {
			x.does(0, 5, 5)
		}
		// A 16th, by the last one; then a 17th, by that and by the first.
		x.does(14, 4, 4)
		if got := x.thread(14).State.R[0]; got != 15 {
			t.Errorf("P11.3 %+v: spawn of a 16th: %x", x.o, got)
		}
		x.is(15, api.Thread{}, func(w *api.Thread) {
			*w = api.Thread{State: api.State{R: [8]uint32{0: 9, 7: stack}}, Mode: api.Ready}
		})
		for _, k := range []int{15, 0, 7} {
			x.does(k, 3, 3)
			x.refuses(k)
		}
		if k, err := x.start(1, 2, 3); k != 0 || err != api.ErrLarge {
			t.Errorf("P11.1 %+v: Start of a 17th: %d, %d", x.o, k, err)
		}
	})
}

func TestJoin(t *testing.T) {
	for _, r1 := range []uint32{0, 3, 4, 15, 16, 255, 256, 1 << 16, 1<<16 + 1, 1 << 31, 1<<31 + 1, none - 1, none} {
		calling(t, "join of itself and of what is not there", 0, 3, r1, 2, 3, func(x *trial) {
			x.start(0, stack, 0)
			x.start(0, stack, 0)
			x.refuses(0)
			x.does(0, 2, 2)
		})
	}
	for _, r1 := range []uint32{1, 2} {
		calling(t, "join", 0, 3, r1, 2, 3, func(x *trial) {
			x.start(0, stack, 0)
			x.start(0, stack, 0)
			x.answers(0, func(w *api.Thread) { w.Mode, w.Waits = api.Waiting, int(r1) })
			x.does(0, 9, 0)
		})
	}
	// Of one ahead of it; of itself, which is not the first; of one that waits for this one.
	each(t, "join of 0", 0, asks(3, 1, 0, 0), func(x *trial) {
		x.load(0x100, asks(3, 0, 0, 0), every)
		x.load(0x200, asks(3, 2, 0, 0), every)
		x.start(0x100, stack, 0)
		x.start(0x200, stack, 0)
		x.does(0, 4, 4)
		x.does(1, 3, 3)
		x.answers(1, func(w *api.Thread) { w.Mode = api.Waiting })
		x.does(2, 3, 3)
		x.refuses(2)
		x.does(0, 9, 0)
		x.does(1, 9, 0)
	})
}

func TestProtect(t *testing.T) {
	for _, y := range []struct {
		page, rights uint32
		done         bool
	}{
		{7, 0, true}, {7, 1, true}, {7, 2, true}, {7, 4, true}, {7, 7, true}, {7, 8, false}, {7, 16, false}, {7, 256, false}, {7, 1 << 31, false}, {7, none, false},
		{0, 7, true}, {0, 4, true}, {4, 0, true}, {5, 3, true}, {253, 6, true}, {255, 5, true}, {256, 5, false}, {256, 8, false},
		{1 << 16, 1, false}, {1 << 31, 1, false}, {none, 1, false}, {none, none, false}, {none - 255, 7, false},
	} {
		calling(t, "protect", 0, 4, y.page, y.rights, 3, func(x *trial) {
			var want []int
			for page := range 8 {
				want = append(want, x.a.m.Rights(page))
			}
			if !y.done {
				x.refuses(0)
			} else {
				x.gives(0, 0)
				if y.page < 8 {
					want[y.page] = int(y.rights)
				} else if got := x.rights(int(y.page)); got[0] != int(y.rights) {
					t.Errorf("P11.3 protect(%d, %d): %d", y.page, y.rights, got[0])
				}
			}
			if got := x.rights(0, 1, 2, 3, 4, 5, 6, 7); !slices.Equal(got, want) {
				t.Errorf("P11.3 protect(%d, %d): rights %v, want %v", y.page, y.rights, got, want)
			}
			x.rightsAgree()
		})
	}
}

// protect of the page that is being run: without Run the next instruction cannot be
// fetched, though the blocks of that page were made; with it again it can.
func TestProtectOwnPage(t *testing.T) {
	list := slices.Concat(code(movi(5, 40), inc(6), dec(5), jcc8(ifNot, -4)), asks(4, 0, 3, 0), code(inc(6)))
	each(t, "its own page", 0, list, func(x *trial) {
		x.does(0, 1000, 1+40*3+4)
		place := uint32(9 + asked)
		if got := x.thread(0); got.Mode != api.Dead || got.Stop != (api.Stop{Kind: api.StopFetch, Arg: place}) || got.State.PC != place || got.State.R[0] != 0 {
			t.Errorf("P11.3 %+v: %+v", x.o, got)
		}
		x.start(0, stack, 0)
		x.does(1, 9, 0)
		x.load(0x80, []byte{0}, api.Run)
		x.start(0, stack, 0)
		x.does(2, 50, 50)
	})
	each(t, "its own page, with Run", 0, slices.Concat(asks(4, 0, 4, 0), code(inc(6), sys(0))), func(x *trial) {
		x.does(0, 100, 6)
		if got := x.thread(0); got.Mode != api.Ended || got.State.R[6] != 1 {
			t.Errorf("P11.3 %+v: %+v", x.o, got)
		}
	})
	// A handler in another page gives the right back, and the thread goes on there.
	list = slices.Concat(asks(5, handler, 0, 0), asks(4, 0, 3, 0), code(inc(6), sys(0)))
	each(t, "its own page, with a handler", 0, list, func(x *trial) {
		x.load(handler, slices.Concat(code(mov(6, 3)), asks(4, 0, 7, 0), code(mov(1, 6), movi(2, 1), sys(6))), every)
		x.does(0, 100, 8+1+4+3+2)
		if got := x.thread(0); got.Mode != api.Ended || got.State.R[6] != 1 || got.State.R[0] != 1 {
			t.Errorf("P11.3 %+v: %+v", x.o, got)
		}
	})
}

func TestSetHandler(t *testing.T) {
	list := slices.Concat(asks(5, 0x80, 0, 0), asks(5, 0, 0, 0), asks(5, none, 0, 0), asks(5, 7, 0, 0))
	each(t, "handler", 0, list, func(x *trial) {
		was := uint32(0)
		for _, to := range []uint32{0x80, 0, none, 7} {
			x.does(0, 3, 3)
			x.answers(0, func(w *api.Thread) { w.Handler, w.State.R[0] = to, was })
			was = to
		}
	})
	// Set and taken away again: a stop is the end.
	each(t, "no handler any more", 0, slices.Concat(asks(5, 0x80, 0, 0), asks(5, 0, 0, 0), code(alone(api.Brk))), func(x *trial) {
		x.does(0, 100, 8)
		if got := x.thread(0); got.Mode != api.Dead || got.In || got.Stop.Kind != api.StopBrk {
			t.Errorf("P11.3 %+v: %+v", x.o, got)
		}
	})
}

func TestSelf(t *testing.T) {
	each(t, "self", 0, asks(7, 9, 9, 9), func(x *trial) {
		for range 15 {
			x.start(0, stack, 5)
		}
		for k := range 16 {
			x.does(k, 3, 3)
			x.gives(k, uint32(k))
		}
	})
}

// yield: Run ends behind it, however many steps are left, and the thread is ready.
func TestYield(t *testing.T) {
	each(t, "yield", 0, code(inc(6), sys(8), inc(6), sys(8), sys(8), movi(0, 9), sys(8), sys(0)), func(x *trial) {
		for _, want := range []int{2, 2, 1, 2} {
			if got := x.thread(0); got.Mode != api.Ready {
				t.Errorf("P11.3 %+v: %+v", x.o, got)
			}
			x.does(0, 100, want)
			if got := x.thread(0); got.State.R[0] != 0 || got.Mode != api.Ready {
				t.Errorf("P11.3 %+v: %+v", x.o, got)
			}
		}
		x.does(0, 100, 1)
	})
	calling(t, "yield", 0, 8, 1, 2, 3, func(x *trial) {
		x.gives(0, 0)
		x.does(0, 2, 2)
	})
	// In a handler too.
	each(t, "yield in a handler", 0, code(movi(1, handler), sys(5), alone(api.Brk)), func(x *trial) {
		x.load(handler, code(sys(8), inc(6), sys(8), at(api.Lea, 1, 3, 0), sys(6)), every)
		for _, want := range []int{3, 2, 3, 2, 3} {
			x.does(0, 100, want)
		}
	})
}

func TestOtherNumbers(t *testing.T) {
	for _, o := range []api.Options{roomy(), options()[1]} {
		for which := uint32(9); which < 256; which++ {
			x := set(t, "a call that there is not", o, 100, slices.Concat(asks(which, 1, 2, 3), code(inc(6))))
			x.start(0, stack, 0)
			x.does(0, 3, 3)
			x.refuses(0)
			x.does(0, 1, 1)
			if which%16 == 9 {
				x.rightsAgree()
			}
		}
	}
}

// Calls at the very end of a run: the last step, and none left.
func TestCallsAtTheEnd(t *testing.T) {
	for which := range uint32(12) {
		calling(t, "the last step", 100, which, 1, 2, 3, func(x *trial) {
			x.start(0, stack, 0)
			was := x.thread(0)
			x.does(0, 0, 0)
			x.is(0, was, func(w *api.Thread) {})
			x.does(0, 1, 1)
			if got := x.thread(0); got.State.PC != asked {
				t.Errorf("P11.2 %+v: call %d: %+v", x.o, which, got)
			}
		})
	}
}
