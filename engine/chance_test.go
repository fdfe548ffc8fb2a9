package engine_test

import (
	"math/rand"
	"strconv"
	"testing"

	"crossgrain/api"
	"crossgrain/guest"
	"crossgrain/mem"
)

// writer draws guests: code in pages 0 to 2, with jumps to where instructions
// begin, loads and stores into data and into the code, and a stack.
type writer struct {
	r      *rand.Rand
	code   []byte
	begins []int // where instructions begin
}

func (w *writer) one(list ...int) int { return list[w.r.Intn(len(list))] }

// lay: an instruction, if it has bytes.
func (w *writer) lay(x api.Ins) {
	b, err := guest.Encode(x)
	if err != api.OK {
		return
	}
	w.begins = append(w.begins, len(w.code))
	w.code = append(w.code, b...)
}

// back: how far it is from an instruction of n bytes to one that is there.
func (w *writer) back(n int) uint32 {
	near := w.begins[max(0, len(w.begins)-1-w.r.Intn(12)):]
	return uint32(near[0] - len(w.code) - n)
}

// data: a register and how far: mostly into data, at times into the code.
func (w *writer) data() (int, uint32) {
	return w.one(5, 6, 6, 6, 6, 7), uint32(w.r.Intn(40) - 12)
}

func (w *writer) ins() {
	r := w.r
	d, s, o := r.Intn(5), r.Intn(8), r.Intn(16)
	switch r.Intn(20) {
	case 0, 1, 2:
		w.lay(api.Ins{Op: w.one(api.Inc, api.Dec, api.Dec, api.Neg, api.Not), D: d})
	case 3, 4:
		w.lay(api.Ins{Op: api.Alu, O: r.Intn(14), D: d, S: s})
	case 5:
		w.lay(api.Ins{Op: api.AluB, O: o, D: d, Imm: uint32(r.Intn(9) - 2)})
	case 6:
		w.lay(api.Ins{Op: api.MovI, D: d, Imm: uint32(w.one(0, 1, 7, 0x410, 0x50, len(w.code), w.begins[r.Intn(len(w.begins))]))})
	case 7:
		w.lay(api.Ins{Op: w.one(api.Mov, api.Set), D: d, S: s})
		w.lay(api.Ins{Op: api.Set, D: d, O: o})
	case 8, 9:
		s, far := w.data()
		w.lay(api.Ins{Op: api.Load, O: r.Intn(5), D: d, S: s, Imm: far})
	case 10, 11:
		s, far := w.data()
		w.lay(api.Ins{Op: api.Store, O: r.Intn(3), D: d, S: s, Imm: far})
	case 12:
		s, far := w.data()
		w.lay(api.Ins{Op: w.one(api.Xchg, api.Xadd, api.Cas, api.Lea), D: d, S: s, Imm: far})
	case 13:
		w.lay(api.Ins{Op: api.Push, S: s})
		w.lay(api.Ins{Op: w.one(api.Pop, api.Nop, api.Nop), D: 0})
	case 14:
		w.lay(api.Ins{Op: w.one(api.Pushf, api.Popf)})
	case 15, 16, 17:
		w.lay(api.Ins{Op: api.Jcc8, O: o, Imm: w.back(2)})
	case 18:
		w.jump()
	default:
		w.lay(api.Ins{Op: w.one(api.Nop, api.Nop, api.Sys, api.Brk, api.Ret)})
	}
}

func (w *writer) jump() {
	switch w.r.Intn(7) {
	case 0:
		w.lay(api.Ins{Op: api.Jmp8, Imm: w.back(2)})
	case 1:
		w.lay(api.Ins{Op: api.Jmp, Imm: uint32(w.r.Intn(4))})
	case 2:
		w.lay(api.Ins{Op: api.Call, Imm: w.back(5)})
	case 3:
		w.lay(api.Ins{Op: api.Jcc, O: w.r.Intn(16), Imm: w.back(5)})
	case 4:
		w.lay(api.Ins{Op: w.one(api.JmpR, api.CallR), S: 5})
	case 5:
		w.lay(api.Ins{Op: api.JmpM, S: 6, Imm: uint32(w.r.Intn(16))})
	default:
		w.lay(api.Ins{Op: api.Ret})
	}
}

// guest: some code, and data of which the numbers are places in it.
func (w *writer) guest() *mem.Memory {
	w.lay(api.Ins{Op: api.Nop})
	for size := 20 + w.r.Intn(700); len(w.code) < size; {
		w.ins()
	}
	m := ground(w.code...)
	for at := 0x400; at < 0x600; at += 4 {
		m.Store(uint32(at), 4, uint32(w.place()))
	}
	return m
}

func (w *writer) place() int { return w.begins[w.r.Intn(len(w.begins))] }

// state: at some instruction.
func (w *writer) state() api.State {
	s := api.State{PC: uint32(w.place()), F: uint32(w.r.Intn(20))}
	for i := range s.R {
		s.R[i] = uint32(w.one(0, 1, 2, 5, 40, 0x410, 0x48, w.r.Int(), w.place()))
	}
	s.R[0] = uint32(1 + w.r.Intn(30))
	s.R[5] = uint32(w.place())
	s.R[6] = uint32(0x420 + w.r.Intn(0x180))
	s.R[7] = uint32(w.one(0x5f0, 0x5f0, 0x4c0, 0x5f8, 0x300, w.place()+40))
	if w.r.Intn(40) == 0 {
		s.PC = uint32(w.one(0xffff, 0x10000, 0xff00, 0x300, 0x2fe, -1, w.r.Int()))
	}
	return s
}

// disturb: somebody else changes bytes or rights; at times both are as before.
func (w *writer) disturb(x *trial) {
	at := w.place()
	switch w.r.Intn(6) {
	case 0:
		x.poke(at, byte(w.one(0x48, 0x51, 0, 1, 0xff, 0x31)))
	case 1:
		same, _ := x.m.Peek(at, 1)
		x.poke(at, same...)
	case 2:
		x.poke(at+w.r.Intn(6), byte(w.r.Intn(256)), byte(w.r.Intn(256)))
	case 3:
		x.protect(at/api.PageSize, w.one(every, every, api.Run, api.Read|api.Run, 3, 0))
	case 4:
		page := w.one(0, 1, 2, 4, 5)
		x.protect(page, w.one(every, 3, 5))
	default:
		x.protect(at/api.PageSize, x.m.Rights(at/api.PageSize))
	}
}

func (w *writer) options() api.Options {
	return api.Options{
		Words: w.one(1, 20, 60, 200, 600, 5000, 40000, api.MaxCode),
		Slots: w.one(1, 2, 3, 16, 1000),
		Most:  w.one(1, 2, 3, 5, 12, 63, 64),
		Regs:  w.one(3, 4, 5, 8, 15, 16),
		Hot:   w.one(0, 0, 0, 1, 1, 2, 3, 7),
		Opt:   w.r.Intn(2) == 0,
		Chain: w.r.Intn(3) > 0,
	}
}

// tally is how much was tried.
type tally struct {
	lefts, stops                      map[int]int
	steps, blocks, leads, stuck, drop int
}

func (y *tally) add(x *trial, stop api.Stop, done int) {
	y.stops[stop.Kind]++
	y.steps += done
	y.blocks += len(x.a.places())
	y.leads += len(x.a.noted)
	for _, b := range x.a.made {
		y.leads += len(b.leads)
	}
}

// enough: are there guests of every sort among those that were drawn?
func (y *tally) enough(t *testing.T) {
	t.Helper()
	for kind := api.Going; kind <= api.StopDivide; kind++ {
		if y.stops[kind] == 0 {
			t.Errorf("no run ended by the stop %d: the guests try too little", kind)
		}
	}
	for kind := api.LeftOn; kind <= api.LeftShort; kind++ {
		if y.lefts[kind] == 0 {
			t.Errorf("the host was never left by %d: the guests try too little", kind)
		}
	}
	if y.steps < 10000 || y.blocks < 10000 || y.leads < 1000 || y.stuck < 100 || y.drop < 1000 {
		t.Errorf("%+v: the guests try too little", *y)
	}
}

// Guests and options by chance, changed by themselves and by others.
func TestChance(t *testing.T) {
	y := &tally{lefts: map[int]int{}, stops: map[int]int{}}
	for seed := range int64(500) {
		w := &writer{r: rand.New(rand.NewSource(seed))}
		m := w.guest()
		x := open(t, "guest "+strconv.Itoa(int(seed))+" by chance", w.options(), m)
		s := w.state()
		for range 12 {
			switch w.r.Intn(18) {
			case 0, 1, 2, 3:
				w.disturb(x)
			case 4:
				x.flush()
			}
			var stop api.Stop
			var done int
			s, stop, done = x.run(s, w.one(-1, 0, 1, 2, 3, 10, 30, 64, 100, 300))
			y.add(x, stop, done)
			if stop.Kind != api.Going && stop.Kind != api.StopSys || w.r.Intn(6) == 0 {
				s = w.state()
			}
		}
		y.stuck += x.a.stuck
		y.drop += x.a.drops
		for kind, n := range x.lefts {
			y.lefts[kind] += n
		}
	}
	t.Logf("%+v", *y)
	y.enough(t)
}
