package host_test

import (
	"strings"
	"testing"

	"crossgrain/api"
	"crossgrain/host"
	"crossgrain/interp"
	"crossgrain/ir"
	"crossgrain/mem"
)

// shape is a row of the chapter's table, its fields in letters: D is written,
// d is read, s is a stop's kind.
type shape struct {
	first, last int
	fields      string
	most        int // of N
}

var shapes = []shape{
	{1, 1, "NK", 64}, {2, 2, "DK", 0}, {3, 3, "DA", 0}, {4, 4, "AN", 64}, {5, 5, "DABC", 0},
	{6, 6, "DN", 11}, {7, 7, "AN", 11}, {8, 8, "DN", 2047}, {9, 9, "AN", 2047},
	{10, 10, "NK", 64}, {11, 11, "ANK", 64}, {12, 12, "sNKX", 64}, {13, 13, "sANK", 64},
	{14, 14, "NK", 64}, {15, 15, "NK", 64}, {16, 31, "DAB", 0}, {32, 38, "DA", 0},
	{48, 60, "DABC", 0}, {64, 79, "DA", 0}, {80, 84, "DANK", 64}, {88, 90, "dANK", 64},
	{96, 96, "ANK", 64}, {97, 97, "D", 0},
}

func (s shape) has(letters string) bool { return strings.ContainsAny(s.fields, letters) }

func (s shape) words() int {
	n := 1
	for _, letter := range "KX" {
		if s.has(string(letter)) {
			n++
		}
	}
	return n
}

func shapeOf(op int) (shape, bool) {
	for _, s := range shapes {
		if op >= s.first && op <= s.last {
			return s, true
		}
	}
	return shape{}, false
}

// ops: all that there are.
func ops() []int {
	var l []int
	for _, s := range shapes {
		for op := s.first; op <= s.last; op++ {
			l = append(l, op)
		}
	}
	return l
}

// ownerOf: the letters of the field that has a bit of the first word; "": Op has it; "-": none.
func (s shape) ownerOf(bit int) string {
	switch {
	case bit < 8:
		return ""
	case bit < 12 && s.has("Dds"):
		return "Dds"
	case bit >= 12 && bit < 16 && s.has("A"):
		return "A"
	case bit >= 16 && s.has("N"):
		return "N"
	case bit >= 16 && bit < 20 && s.has("B"):
		return "B"
	case bit >= 20 && bit < 24 && s.has("C"):
		return "C"
	}
	return "-"
}

// slowDecode: what the chapter says, bit by bit.
func slowDecode(w []uint32, at int) (api.Code, int, api.Errno) {
	var none api.Code
	if at < 0 || at > len(w) {
		return none, 0, api.ErrArg
	}
	if at == len(w) {
		return none, 0, api.ErrEnd
	}
	x := api.Code{Op: int(w[at] % 256)}
	s, ok := shapeOf(x.Op)
	if !ok {
		return none, 0, api.ErrOp
	}
	if at+s.words() > len(w) {
		return none, 0, api.ErrEnd
	}
	fields := map[string]*int{"Dds": &x.D, "A": &x.A, "B": &x.B, "C": &x.C, "N": &x.N}
	lowest := map[string]int{"Dds": 8, "A": 12, "B": 16, "C": 20, "N": 16}
	for bit := 8; bit < 32; bit++ {
		if w[at]>>bit%2 == 0 {
			continue
		}
		owner := s.ownerOf(bit)
		if owner == "-" {
			return none, 0, api.ErrField
		}
		*fields[owner] += 1 << (bit - lowest[owner])
	}
	if s.has("K") {
		x.K = w[at+1]
	}
	if s.has("X") {
		x.X = w[at+2]
	}
	if x.N > s.most || s.has("s") && (x.D < 1 || x.D > 7) {
		return none, 0, api.ErrField
	}
	return x, s.words(), api.OK
}

// slowEncode: each field by itself, and then sums.
func slowEncode(x api.Code) ([]uint32, api.Errno) {
	s, ok := shapeOf(x.Op)
	if !ok {
		return nil, api.ErrOp
	}
	low, high := 0, 15
	if s.has("s") {
		low, high = 1, 7
	}
	in := func(n, low, high int, letters string) bool {
		if !s.has(letters) {
			return n == 0
		}
		return n >= low && n <= high
	}
	if !in(x.D, low, high, "Dds") || !in(x.A, 0, 15, "A") || !in(x.B, 0, 15, "B") || !in(x.C, 0, 15, "C") || !in(x.N, 0, s.most, "N") {
		return nil, api.ErrField
	}
	if !s.has("K") && x.K != 0 || !s.has("X") && x.X != 0 {
		return nil, api.ErrField
	}
	first := x.Op + 256*x.D + 4096*x.A + 65536*(x.N+x.B+16*x.C)
	return []uint32{uint32(first), x.K, x.X}[:s.words()], api.OK
}

// words: of instructions, as the model lays them.
func words(t *testing.T, l ...api.Code) []uint32 {
	t.Helper()
	var w []uint32
	for _, x := range l {
		v, err := slowEncode(x)
		if err != api.OK {
			t.Fatalf("no words of %+v: %d", x, err)
		}
		w = append(w, v...)
	}
	return w
}

// slow is the host once more: what was written is what a map has.
type slow struct {
	c     api.Context
	m     *mem.Memory
	regs  map[int]uint32
	spill map[int]uint32
	done  int
	count int
}

// empty is handed to blocks that use no memory.
var empty = mem.New()

// given: what an operation of chapter 4 gives of three numbers.
func given(o api.Op, a, b, c uint32) uint32 {
	n := func(k uint32) api.Op { return api.Op{Kind: api.OpConst, K: k} }
	block := api.Block{Ops: []api.Op{n(a), n(b), n(c), o, {Kind: api.OpPut, A: 3}, {Kind: api.OpGoto}}}
	d, _, err := ir.Eval(block, api.Context{}, empty)
	if err != api.OK {
		panic(err)
	}
	return d[0]
}

// isStuck: is something read that was not written?
func (h *slow) isStuck(x api.Code, s shape) bool {
	for letter, n := range map[string]int{"A": x.A, "B": x.B, "C": x.C, "d": x.D} {
		if _, ok := h.regs[n]; s.has(letter) && !ok {
			return true
		}
	}
	_, ok := h.spill[x.N]
	return x.Op == api.HLds && !ok
}

// gives: the value of an instruction that gives one, and the stop of a load.
func (h *slow) gives(x api.Code) (uint32, api.Stop) {
	a, b, c := h.regs[x.A], h.regs[x.B], h.regs[x.C]
	switch op := x.Op; {
	case op == 2:
		return x.K, api.Stop{}
	case op == 3:
		return a, api.Stop{}
	case op == 5:
		return given(api.Op{Kind: api.OpSel, B: 1, C: 2}, a, b, c), api.Stop{}
	case op == 6:
		return h.c[x.N], api.Stop{}
	case op == 8:
		return h.spill[x.N], api.Stop{}
	case op >= 16 && op <= 31:
		return given(api.Op{Kind: api.OpBin, W: op - 16, B: 1}, a, b, 0), api.Stop{}
	case op >= 32 && op <= 38:
		return given(api.Op{Kind: api.OpUn, W: op - 32}, a, 0, 0), api.Stop{}
	case op >= 48 && op <= 60:
		return interp.Flags(op-48, a, b, c), api.Stop{}
	case op >= 64 && op <= 79:
		if interp.Holds(op-64, a) {
			return 1, api.Stop{}
		}
		return 0, api.Stop{}
	case op == 80 || op == 81:
		v, stop := h.m.Load(a, 1)
		if op == 81 && v >= 0x80 {
			v += 0xffffff00
		}
		return v, stop
	case op == 82 || op == 83:
		v, stop := h.m.Load(a, 2)
		if op == 83 && v >= 0x8000 {
			v += 0xffff0000
		}
		return v, stop
	case op == 84:
		return h.m.Load(a, 4)
	}
	return interp.Flags(int(h.c[8]), h.c[9], h.c[10], h.c[11]), api.Stop{} // now
}

func (h *slow) isEnter(w []uint32, at int) bool {
	x, _, err := slowDecode(w, at)
	return err == api.OK && x.Op == 1
}

// enters: how an enter is left, if it is.
func (h *slow) enters(x api.Code, left int) (api.Left, bool) {
	kind := 0
	if h.count >= 1048576 {
		kind = api.LeftFuel
	}
	if h.done+x.N > left {
		kind = api.LeftShort
	}
	if h.m.Touched() {
		kind = api.LeftOn
	}
	h.regs, h.spill = map[int]uint32{}, map[int]uint32{}
	return api.Left{Kind: kind, PC: x.K, N: h.done}, kind != 0
}

// stops: of an instruction that gives nothing; the stop, or whether it is left.
func (h *slow) stops(x api.Code) (api.Stop, bool) {
	a, d := h.regs[x.A], h.regs[x.D]
	var stop api.Stop
	switch x.Op {
	case 7:
		h.c[x.N] = a
	case 9:
		h.spill[x.N] = a
	case 10:
		return stop, h.m.Touched()
	case 11:
		return stop, a != 0
	case 12:
		return api.Stop{Kind: x.D, Arg: x.X}, true
	case 13:
		return api.Stop{Kind: x.D}, a != 0
	case 14:
		return stop, true
	case 88, 89, 90:
		stop = h.m.Store(a, map[int]int{88: 1, 89: 2, 90: 4}[x.Op], d)
	}
	return stop, stop.Kind != 0
}

// slowRun: the host, step by step. Far below 0 and far above nothing is left or
// done that the sums here have no room for.
func slowRun(w []uint32, at int, c api.Context, m *mem.Memory, left int, table []api.Entry) (api.Context, api.Left) {
	h := &slow{c: c, m: m}
	stuck := func() (api.Context, api.Left) { return h.c, api.Left{Kind: api.LeftStuck, At: at} }
	if !h.isEnter(w, at) {
		return stuck()
	}
	for ; ; h.count++ {
		x, n, err := slowDecode(w, at)
		s, _ := shapeOf(x.Op)
		if err != api.OK || h.isStuck(x, s) {
			return stuck()
		}
		to := at + n
		switch {
		case x.Op == 1:
			if out, is := h.enters(x, left); is {
				out.At = at
				return h.c, out
			}
		case x.Op == 15 || x.Op == 96 && h.regs[x.A] != 0:
			if to = int(x.K); !h.isEnter(w, to) {
				return stuck()
			}
			h.done += x.N
		case x.Op == 4:
			h.done += x.N
			pc := h.regs[x.A]
			to = -1
			for i, e := range table {
				if int64(i) == int64(pc)%int64(len(table)) && e.PC == pc {
					to = e.At
				}
			}
			if !h.isEnter(w, to) {
				return h.c, api.Left{Kind: api.LeftTo, PC: pc, N: h.done, At: at}
			}
		case s.has("D"):
			v, stop := h.gives(x)
			if stop.Kind != 0 {
				return h.c, api.Left{Kind: api.LeftStop, Stop: stop, PC: x.K, N: h.done + x.N, At: at}
			}
			h.regs[x.D] = v
		default:
			if stop, is := h.stops(x); stop.Kind != 0 && is {
				return h.c, api.Left{Kind: api.LeftStop, Stop: stop, PC: x.K, N: h.done + x.N, At: at}
			} else if is {
				return h.c, api.Left{Kind: api.LeftOn, PC: x.K, N: h.done + x.N, At: at}
			}
		}
		at = to
	}
}

// same: Run does what the model does, from a context and a memory on, and writes into nothing that it may not.
func same(t *testing.T, w []uint32, at int, c api.Context, m *mem.Memory, left int, table []api.Entry) api.Left {
	t.Helper()
	v, l := append([]uint32(nil), w...), append([]api.Entry(nil), table...)
	p, q := *m, *m
	wantC, want := slowRun(v, at, c, &p, left, l)
	gotC, got := host.Run(w, at, c, &q, left, table)
	if got != want || gotC != wantC || q != p {
		t.Fatalf("P7.2 Run(%x, %d, %x, left %d, %v): %+v, %x, want %+v, %x (memory the same: %v)", w, at, c, left, table, got, gotC, want, wantC, q == p)
	}
	for i := range w {
		if w[i] != v[i] {
			t.Fatalf("P0 Run wrote into its words")
		}
	}
	for i := range table {
		if table[i] != l[i] {
			t.Fatalf("P0 Run wrote into its table")
		}
	}
	return got
}
