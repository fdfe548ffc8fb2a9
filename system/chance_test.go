package system_test

import (
	"math/rand"
	"slices"
	"strconv"
	"testing"

	"crossgrain/api"
	"crossgrain/guest"
)

// writer draws guests: code in pages 0 to 2, that computes, loads, stores, jumps
// and calls the system, and handlers among it.
type writer struct {
	r        *rand.Rand
	code     []byte
	begins   []int // where instructions begin
	handlers []int
	doors    []int // where threads begin: what comes there sets their registers
}

func (w *writer) one(list ...int) int { return list[w.r.Intn(len(list))] }

// lay: instructions that have bytes.
func (w *writer) lay(list ...api.Ins) {
	for _, x := range list {
		if b, err := guest.Encode(x); err == api.OK {
			w.begins = append(w.begins, len(w.code))
			w.code = append(w.code, b...)
		}
	}
}

func (w *writer) some(list []int) uint32 { return uint32(list[w.r.Intn(len(list))]) }

func (w *writer) place() uint32 { return w.some(w.begins) }

// back: how far it is from an instruction of n bytes to one not far ahead of it.
func (w *writer) back(n int) uint32 {
	near := w.begins[max(0, len(w.begins)-1-w.r.Intn(12)):]
	return uint32(near[0] - len(w.code) - n)
}

// door: where a thread begins: places of data and of code.
func (w *writer) door() {
	w.doors = append(w.doors, len(w.code))
	w.lay(movi(5, w.place()), movi(6, uint32(w.one(data+0x20, data+0x1c0, fixed+8, bare+4, 0xfffc))))
	w.lay(movi(4, uint32(1+w.r.Intn(30))))
	if w.r.Intn(3) > 0 {
		w.lay(movi(1, w.some(w.handlers)), sys(5))
	}
}

// worker: what soon ends.
func (w *writer) worker() {
	w.door()
	w.lay(at(api.Xadd, 4, 6, 0), inc(4), mov(1, w.one(4, 0, 5)), sys(0))
}

// handler: of each sort: one that gives a right, those that go on at or behind the
// stop, that end, that stop themselves, and any code.
func (w *writer) handler() {
	w.handlers = append(w.handlers, len(w.code))
	switch w.r.Intn(7) {
	case 0, 1:
		w.lay(mov(1, 2), alub(api.Shr, 1, 8), movi(2, uint32(w.one(7, 7, 3, 9))), sys(4), mov(1, 3), mov(2, 0), sys(6))
	case 2, 3:
		w.lay(at(api.Lea, 1, 3, w.one(1, 1, 2, 3)), mov(2, w.one(0, 4)), sys(6))
	case 4:
		w.lay(sys(0))
	case 5:
		w.lay(inc(4), alone(api.Brk))
	default:
		w.lay(movi(1, w.place()), mov(2, 4), sys(uint32(w.one(6, 8, 5))))
	}
}

// asks: a call, mostly one that can be done.
func (w *writer) asks() {
	r := w.r
	r1, r2, r3 := uint32(r.Intn(20)), uint32(r.Intn(9)), uint32(r.Intn(99))
	which := w.one(0, 1, 1, 2, 2, 3, 3, 4, 4, 5, 5, 6, 7, 8, 8)
	switch which {
	case 1:
		r1 = uint32(w.one(data, data+0x1fe, fixed, fixed+0xfe, bare, 0, 0xffff, -1))
		r2 = uint32(w.one(0, 1, 2, 3, 3, 40, 256, 257, -1))
	case 2:
		r1, r2 = w.some(w.doors), uint32(w.one(stack, stack-0x40, 0x300, fixed))
	case 3:
		r1 = uint32(w.one(0, 0, 1, 1, 2, 2, 3, 4, 5, 15, 16, -1))
		if r.Intn(3) == 0 {
			// Of one that it makes itself.
			w.lay(movi(1, w.some(w.doors)), movi(2, stack-0x20), sys(2), mov(1, 0), sys(3))
			return
		}
	case 4:
		r1, r2 = uint32(w.one(0, 1, 2, 4, 5, 6, 7, 7, 255, 256, -1)), uint32(w.one(0, 1, 3, 3, 5, 6, 7, 7, 7, 7, 8, -1))
	case 5:
		r1 = w.some(slices.Concat(w.handlers, []int{0, 0}))
	case 6:
		r1 = w.place()
	case 7:
		which = w.one(7, 9, 10, 77, 255)
	}
	w.lay(movi(1, r1), movi(2, r2), movi(3, r3), sys(uint32(which)))
}

func (w *writer) ins() {
	r := w.r
	d, s := r.Intn(5), r.Intn(8)
	by, far := w.one(6, 6, 6, 6, 7, 5), r.Intn(40)-12
	switch r.Intn(20) {
	case 0, 1:
		w.lay(api.Ins{Op: w.one(api.Inc, api.Dec, api.Neg, api.Not), D: d})
	case 2:
		w.lay(api.Ins{Op: api.Alu, O: r.Intn(16), D: d, S: s})
	case 3:
		w.lay(alub(r.Intn(16), d, r.Intn(9)-2))
	case 4:
		w.lay(mov(d, s), api.Ins{Op: api.Set, D: r.Intn(3), O: r.Intn(16)})
	case 5, 6:
		w.lay(load(r.Intn(5), d, by, far))
	case 7, 8:
		w.lay(store(r.Intn(3), d, by, far))
	case 9:
		w.lay(at(w.one(api.Xchg, api.Xadd, api.Cas, api.Lea), d, by, far))
	case 10:
		w.lay(api.Ins{Op: api.Push, S: s}, api.Ins{Op: w.one(api.Pop, api.Popf, api.Nop)})
	case 11, 12:
		w.lay(dec(4), jcc8(ifNot, int(int32(w.back(2)))))
	case 13:
		w.lay(api.Ins{Op: api.Jcc8, O: r.Intn(16), Imm: w.back(2)})
	case 14:
		w.jump()
	case 15:
		w.lay(sys(uint32(w.one(7, 8, 1, 3, 4, 5, 6, 200))))
	default:
		w.asks()
	}
}

func (w *writer) jump() {
	switch w.r.Intn(7) {
	case 0:
		w.lay(api.Ins{Op: api.Call, Imm: w.back(5)})
	case 1:
		w.lay(api.Ins{Op: w.one(api.JmpR, api.CallR), S: 5})
	case 2:
		w.lay(alone(api.Brk))
	case 3:
		w.code = append(w.code, 0xff)
	case 4:
		w.lay(movi(2, 0), api.Ins{Op: api.Alu, O: api.Divu, D: 1, S: 2})
	default:
		w.lay(alone(api.Ret))
	}
}

// guest: code, and data of which the numbers are places in it; pages as in set.
func (w *writer) guest(x *trial) {
	w.lay(alone(api.Nop))
	w.handler()
	w.door()
	for size := 60 + w.r.Intn(650); len(w.code) < size; {
		switch w.r.Intn(30) {
		case 0:
			w.handler()
		case 1:
			w.door()
		case 2:
			w.worker()
		default:
			w.ins()
		}
	}
	x.load(0, w.code, every)
	var words []byte
	for range 128 {
		p := w.place()
		words = append(words, byte(p), byte(p>>8), 0, 0)
	}
	x.load(data, words, api.Read|api.Write)
	x.load(fixed, words[:256], api.Read)
	x.load(0xff00, words[:256], api.Read|api.Write)
}

func (w *writer) options() api.Options {
	return api.Options{
		Words: w.one(1, 10, 20, 60, 200, 600, 5000, 40000),
		Slots: w.one(1, 2, 3, 16, 1000),
		Most:  w.one(1, 2, 3, 5, 12, 63, 64),
		Regs:  w.one(3, 4, 5, 8, 15, 16),
		Hot:   w.one(0, 0, 0, 1, 1, 2, 3, 7),
		Opt:   w.r.Intn(2) == 0,
		Chain: w.r.Intn(3) > 0,
	}
}

// turn: somebody outside does something: mostly, a thread goes on.
func (w *writer) turn(x *trial) {
	r := w.r
	switch r.Intn(24) {
	case 0:
		x.start(w.some(w.doors), uint32(w.one(stack, stack-0x20, 0x280, 3)), uint32(r.Intn(50)))
	case 1:
		b := make([]byte, w.one(0, 1, 1, 2, 300))
		r.Read(b)
		x.load(w.one(int(w.place()), int(w.place()), data, 0xffff, -1), b, w.one(every, every, 3, 5, 0, 8))
	case 2:
		p := int(w.place())
		same, _ := x.s.Peek(p, 1)
		x.load(p, same, every)
	case 3:
		x.e.Flush()
	case 4:
		clear(x.s.Out())
		x.agrees("P11.1 Out, changed by who has it")
	default:
		x.run(r.Intn(len(x.a.threads)+3)-1, w.one(-1, 0, 1, 1, 2, 3, 5, 10, 30, 64, 100, 300, 300))
	}
}

// enough: did all of it come about that a guest can do?
func enough(t *testing.T, seen map[string]int) {
	t.Helper()
	wants := []string{
		"woken by Run, in vain", "woken by Run, of mode 3", "woken by Run, of mode 4",
		"woken by join, in vain", "woken by join, of mode 3", "woken by join, of mode 4", "stop in a handler",
	}
	for kind := api.StopBrk; kind <= api.StopDivide; kind++ {
		wants = append(wants, "dead by "+strconv.Itoa(kind), "handler for "+strconv.Itoa(kind))
	}
	for which := range 9 {
		wants = append(wants, "call "+strconv.Itoa(which))
	}
	for _, which := range []int{1, 2, 3, 4, 6, 9} {
		wants = append(wants, "call "+strconv.Itoa(which)+" refused")
	}
	for _, want := range wants {
		if seen[want] < 10 {
			t.Errorf("%d times %q: the guests try too little", seen[want], want)
		}
	}
}

// Guests, options and schedules by chance.
func TestChance(t *testing.T) {
	seen := map[string]int{}
	for seed := range int64(500) {
		w := &writer{r: rand.New(rand.NewSource(seed))}
		x := open(t, "guest "+strconv.Itoa(int(seed))+" by chance", w.options(), w.one(0, 1, 5, 300, 5000))
		w.guest(x)
		for range 1 + w.r.Intn(4) {
			x.start(w.some(w.doors), stack, uint32(w.r.Intn(50)))
		}
		for range 120 {
			w.turn(x)
		}
		x.rightsAgree()
		for what, n := range x.a.seen {
			seen[what] += n
		}
	}
	t.Log(seen)
	enough(t, seen)
}

// The same guest by all options, and by a schedule of its own: what is told of it
// hangs on no option.
func TestOptionsAreOfNoMatter(t *testing.T) {
	for seed := range int64(40) {
		for _, o := range options() {
			w := &writer{r: rand.New(rand.NewSource(1000 + seed))}
			x := open(t, "guest "+strconv.Itoa(int(seed))+" by all options", o, 300)
			w.guest(x)
			x.start(w.some(w.doors), stack, 3)
			x.start(w.some(w.doors), stack-0x40, 4)
			for range 40 {
				x.run(w.r.Intn(len(x.a.threads)), w.one(1, 7, 40, 200))
			}
		}
	}
}
