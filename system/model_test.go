package system_test

import (
	"bytes"
	"slices"
	"testing"

	"crossgrain/api"
	"crossgrain/engine"
	"crossgrain/interp"
	"crossgrain/mem"
	"crossgrain/system"
)

// none is R0 behind a call that cannot be done.
const none = 0xffffffff

const every = api.Read | api.Write | api.Run

// account is chapter 11, told plainly: threads that go step by step over a memory
// of their own. What it takes of the other packages are the memory and steps.
type account struct {
	m       *mem.Memory
	threads []api.Thread
	out     []byte
	limit   int
	seen    map[string]int // what came about, and how often
}

func (a *account) load(at int, b []byte, rights int) api.Errno {
	if rights < 0 || rights > 7 || a.m.Poke(at, b) != api.OK {
		return api.ErrArg
	}
	for i := range b {
		a.m.Protect((at+i)/256, rights)
	}
	return api.OK
}

func (a *account) start(pc, sp, arg uint32) (int, api.Errno) {
	if len(a.threads) == 16 {
		return 0, api.ErrLarge
	}
	var x api.Thread
	x.Mode = 1
	x.State.PC = pc
	x.State.R[7] = sp
	x.State.R[0] = arg
	a.threads = append(a.threads, x)
	return len(a.threads) - 1, api.OK
}

func (a *account) thread(t int) (api.Thread, api.Errno) {
	if t < 0 || t >= len(a.threads) {
		return api.Thread{}, api.ErrArg
	}
	return a.threads[t], api.OK
}

// awake: a thread that waits, if that for which it waits is at its end.
func (a *account) awake(x *api.Thread, how string) {
	if x.Mode != 2 {
		return
	}
	other := a.threads[x.Waits]
	if other.Mode != 3 && other.Mode != 4 {
		a.seen[how+", in vain"]++
		return
	}
	x.Mode, x.Waits, x.State.R[0] = 1, 0, other.Code
	if other.Mode == 4 {
		x.State.R[0] = none
	}
	a.seen[how+", of mode "+string(rune('0'+other.Mode))]++
}

func (a *account) run(t, n int) (int, api.Errno) {
	if t < 0 || t >= len(a.threads) || n < 0 {
		return 0, api.ErrArg
	}
	a.awake(&a.threads[t], "woken by Run")
	done := 0
	for done < n && a.threads[t].Mode == 1 {
		s, stop := interp.Step(a.m, a.threads[t].State)
		a.threads[t].State = s
		switch stop.Kind {
		case 0:
			done++
		case 1:
			done++
			a.call(t, stop.Arg)
			if stop.Arg == 8 {
				return done, api.OK
			}
		default:
			a.stopped(&a.threads[t], stop)
		}
	}
	return done, api.OK
}

func (a *account) stopped(x *api.Thread, stop api.Stop) {
	kind := string(rune('0' + stop.Kind))
	if x.In {
		a.seen["stop in a handler"]++
	}
	if x.Handler == 0 || x.In {
		x.Mode, x.Stop = 4, stop
		a.seen["dead by "+kind]++
		return
	}
	a.seen["handler for "+kind]++
	x.Saved, x.In = x.State, true
	x.State.R[1] = uint32(stop.Kind)
	x.State.R[2] = stop.Arg
	x.State.R[3] = x.Saved.PC
	x.State.PC = x.Handler
}

// call: all that it changes, or R0 alone.
func (a *account) call(t int, which uint32) {
	x := a.threads[t]
	name := "call " + string(rune('0'+min(which, 9)))
	if a.done(&x, t, which) {
		a.threads[t] = x
		a.seen[name]++
		return
	}
	a.threads[t].State.R[0] = none
	a.seen[name+" refused"]++
}

// done: of a thread's copy, and of the rest only where the call can be done.
func (a *account) done(x *api.Thread, t int, which uint32) bool {
	r0, r1, r2, r3 := &x.State.R[0], x.State.R[1], x.State.R[2], x.State.R[3]
	switch which {
	case 0:
		x.Mode, x.Code = 3, r1
	case 1:
		b, ok := a.loaded(r1, r2)
		a.out = append(a.out, b...)
		*r0 = r2
		return ok
	case 2:
		k, err := a.start(r1, r2, r3)
		*r0 = uint32(k)
		return err == api.OK
	case 3:
		if uint64(r1) >= uint64(len(a.threads)) || int(r1) == t {
			return false
		}
		x.Mode, x.Waits = 2, int(r1)
		a.awake(x, "woken by join")
	case 4:
		*r0 = 0
		return a.m.Protect(int(r1), int(r2)) == api.OK
	case 5:
		*r0 = x.Handler
		x.Handler = r1
	case 6:
		if !x.In {
			return false
		}
		x.State = x.Saved
		x.State.PC = r1
		x.State.R[0] = r2
		x.In, x.Saved = false, api.State{}
	case 7:
		*r0 = uint32(t)
	case 8:
		*r0 = 0
	default:
		return false
	}
	return true
}

// loaded: the bytes that a write may write.
func (a *account) loaded(from, n uint32) ([]byte, bool) {
	if n > 256 || uint64(len(a.out))+uint64(n) > uint64(a.limit) {
		return nil, false
	}
	var b []byte
	for i := uint32(0); i < n; i++ {
		v, stop := a.m.Load(from+i, 1)
		if stop.Kind != 0 {
			return nil, false
		}
		b = append(b, byte(v))
	}
	return b, true
}

// trial is a system and the account, by the same calls.
type trial struct {
	t     *testing.T
	what  string
	o     api.Options
	s     *system.System
	e     *engine.Engine
	a     *account
	calls int
}

func open(t *testing.T, what string, o api.Options, limit int) *trial {
	t.Helper()
	s, err := system.New(o, limit)
	if s == nil || err != api.OK {
		t.Fatalf("New, %s, of %+v and %d: %v, %d", what, o, limit, s != nil, err)
	}
	x := &trial{t: t, what: what, o: o, s: s, e: s.Engine()}
	x.a = &account{m: mem.New(), limit: limit, seen: map[string]int{}}
	x.agrees("New")
	return x
}

func (x *trial) load(at int, b []byte, rights int) api.Errno {
	x.t.Helper()
	given := bytes.Clone(b)
	err, want := x.s.Load(at, b, rights), x.a.load(at, given, rights)
	if err != want || !bytes.Equal(b, given) {
		x.t.Fatalf("P11.1 %s, %+v: Load(%d, %d bytes, %d): %d, want %d", x.what, x.o, at, len(b), rights, err, want)
	}
	x.agrees("P11.1 Load")
	return err
}

func (x *trial) start(pc, sp, arg uint32) (int, api.Errno) {
	x.t.Helper()
	k, err := x.s.Start(pc, sp, arg)
	if want, wantErr := x.a.start(pc, sp, arg); k != want || err != wantErr {
		x.t.Fatalf("P11.1 %s, %+v: Start(%x, %x, %x): %d, %d, want %d, %d", x.what, x.o, pc, sp, arg, k, err, want, wantErr)
	}
	x.agrees("P11.1 Start")
	return k, err
}

func (x *trial) run(t, n int) (int, api.Errno) {
	x.t.Helper()
	done, err := x.s.Run(t, n)
	if want, wantErr := x.a.run(t, n); done != want || err != wantErr {
		x.t.Fatalf("P11.2 %s, %+v: call %d, Run(%d, %d): %d, %d, want %d, %d", x.what, x.o, x.calls, t, n, done, err, want, wantErr)
	}
	x.agrees("P11.2 Run")
	return done, err
}

// agrees: are all threads, what was written and the memory those of the account?
func (x *trial) agrees(call string) {
	x.t.Helper()
	x.calls++
	for t := -1; t <= api.MaxThreads; t++ {
		got, err := x.s.Thread(t)
		want, wantErr := x.a.thread(t)
		if got != want || err != wantErr {
			x.t.Fatalf("%s, %s, %+v: behind call %d thread %d: %+v, %d, want %+v, %d", call, x.what, x.o, x.calls, t, got, err, want, wantErr)
		}
	}
	if got := x.s.Out(); !bytes.Equal(got, x.a.out) {
		x.t.Fatalf("%s, %s, %+v: behind call %d there was written %x, want %x", call, x.what, x.o, x.calls, got, x.a.out)
	}
	got, err := x.s.Peek(0, api.MemSize)
	want, _ := x.a.m.Peek(0, api.MemSize)
	if err != api.OK || !bytes.Equal(got, want) {
		x.t.Fatalf("%s, %s, %+v: behind call %d the memory is another: %d", call, x.what, x.o, x.calls, err)
	}
	if x.s.Engine() != x.e || x.e == nil {
		x.t.Fatalf("%s, %s, %+v: behind call %d the engine is another", call, x.what, x.o, x.calls)
	}
}

// probe is where code lies that asks for rights: its page is not asked.
const probe = 0xfe00

// rights: those of pages as a guest finds them; no byte is another behind it.
func (x *trial) rights(pages ...int) []int {
	x.t.Helper()
	x.load(probe, code(load(0, 0, 1, 0), store(0, 0, 1, 0)), every)
	var list []int
	for _, page := range pages {
		list = append(list, x.found(page))
	}
	return list
}

func (x *trial) found(page int) int {
	place := uint32(page * api.PageSize)
	first, _ := x.s.Peek(int(place), 1)
	// Whatever the instruction is that lies there, all that it reaches is beyond the memory.
	far := api.State{PC: place}
	for i := range far.R {
		far.R[i] = 1 << 31
	}
	rights := 0
	for _, ask := range []struct {
		right, stop int
		s           api.State
	}{
		{api.Read, api.StopLoad, api.State{PC: probe, R: [8]uint32{1: place}}},
		{api.Write, api.StopStore, api.State{PC: probe + 3, R: [8]uint32{uint32(first[0]), place}}},
		{api.Run, api.StopFetch, far},
	} {
		if _, stop, _ := x.e.Run(ask.s, 1); stop != (api.Stop{Kind: ask.stop, Arg: place}) {
			rights |= ask.right
		}
	}
	return rights
}

// rightsAgree: of all pages but the probe's.
func (x *trial) rightsAgree() {
	x.t.Helper()
	var pages, want []int
	for page := range api.Pages {
		if page != probe/api.PageSize {
			pages = append(pages, page)
			want = append(want, x.a.m.Rights(page))
		}
	}
	if got := x.rights(pages...); !slices.Equal(got, want) {
		x.t.Fatalf("%s, %+v: behind call %d the pages %v have the rights %v, want %v", x.what, x.o, x.calls, pages, got, want)
	}
}
