package gen_test

import (
	"fmt"
	"math/rand"
	"slices"
	"testing"

	"crossgrain/api"
	"crossgrain/gen"
	"crossgrain/host"
	"crossgrain/ir"
	"crossgrain/mem"
)

// told: some operations as lines, for who reads what went wrong.
func told(ops []api.Op) string {
	names := []string{"?", "const", "get", "put", "bin", "un", "sel", "flags", "cond", "load", "store", "watch", "if", "stopif", "stop", "goto", "gotot", "now"}
	s := "\n"
	for i, o := range ops[:min(len(ops), 60)] {
		s += fmt.Sprintf("  %d %s W %d (%d, %d, %d) K %x N %d\n", i, names[max(0, o.Kind%len(names))], o.W, o.A, o.B, o.C, o.K, o.N)
	}
	return s
}

// fields: the registers that an instruction of the host reads, and those that it writes; by chapter 7's table.
func fields(x api.Code) (reads, writes []int) {
	switch op := x.Op; {
	case op == 2 || op == 6 || op == 8 || op == 97:
		return nil, []int{x.D}
	case op == 3 || op >= 32 && op <= 38 || op >= 64 && op <= 84:
		return []int{x.A}, []int{x.D}
	case op == 4 || op == 7 || op == 9 || op == 11 || op == 13:
		return []int{x.A}, nil
	case op == 5 || op >= 48 && op <= 60:
		return []int{x.A, x.B, x.C}, []int{x.D}
	case op >= 16 && op <= 31:
		return []int{x.A, x.B}, []int{x.D}
	case op >= 88 && op <= 90:
		return []int{x.D, x.A}, nil
	}
	return nil, nil
}

// code is what gen.Code tells of a block, and what is seen in it.
type code struct {
	words  []uint32
	list   []api.Code
	spills int // how many instructions write or read one
}

// count: how many of its instructions have an Op from one to another.
func (c code) count(from, to int) int {
	n := 0
	for _, x := range c.list {
		if x.Op >= from && x.Op <= to {
			n++
		}
	}
	return n
}

// made: gen.Code of a block that ir.Check does not refuse, held against P8.1
// and P8.3. Code without chain and ifon goes straight on: if each register and
// spill is written ahead of where it is read, none is read too early, whatever
// it is run with.
func made(t *testing.T, b api.Block, regs int) code {
	t.Helper()
	was := slices.Clone(b.Ops)
	w, err := gen.Code(b, regs)
	if err != api.OK {
		t.Fatalf("P8.1 Code with %d registers is the error %d:%s", regs, err, told(b.Ops))
	}
	if !slices.Equal(b.Ops, was) {
		t.Fatalf("P0 the operations that were handed in are others now:%s%s", told(was), told(b.Ops))
	}
	if len(w) > 16*len(b.Ops)+2 {
		t.Fatalf("%d words of %d operations", len(w), len(b.Ops))
	}
	c := code{words: w}
	var registers [16]bool
	var spills [api.MaxSpill]bool
	for at := 0; at < len(w); {
		x, n, err := host.Decode(w, at)
		if err != api.OK {
			t.Fatalf("P8.1 the word %d of %d has the error %d:%s", at, len(w), err, told(b.Ops))
		}
		if (x.Op == api.HEnter) != (at == 0) || x.Op == api.HChain || x.Op == api.HIfOn {
			t.Fatalf("P8.1 at %d of %d: %+v:%s", at, len(w), x, told(b.Ops))
		}
		reads, writes := fields(x)
		for _, r := range slices.Concat(reads, writes) {
			if r >= regs {
				t.Fatalf("P8.1 with %d registers, at %d: %+v:%s", regs, at, x, told(b.Ops))
			}
		}
		for _, r := range reads {
			if !registers[r] {
				t.Fatalf("P8.3 with %d registers, at %d: %+v reads what was not written:%s", regs, at, x, told(b.Ops))
			}
		}
		if x.Op == api.HLds && !spills[x.N] {
			t.Fatalf("P8.3 with %d registers, at %d: %+v reads what was not written:%s", regs, at, x, told(b.Ops))
		}
		for _, r := range writes {
			registers[r] = true
		}
		if x.Op == api.HSts && spills[x.N] {
			t.Fatalf("with %d registers, at %d: %+v writes a spill again, but no value changes:%s", regs, at, x, told(b.Ops))
		}
		if x.Op == api.HSts {
			spills[x.N] = true
		}
		if x.Op == api.HSts || x.Op == api.HLds {
			c.spills++
		}
		c.list = append(c.list, x)
		at += n
	}
	if first := (api.Code{Op: api.HEnter, N: b.Count, K: b.PC}); len(c.list) == 0 || c.list[0] != first {
		t.Fatalf("P8.1 the first is not %+v: %+v", first, c.list[:min(1, len(c.list))])
	}
	if last := c.list[len(c.list)-1].Op; last != api.HLeave && last != api.HLeaveT && last != api.HStop {
		t.Fatalf("P8.3 behind the last, %d, are no words:%s", last, told(b.Ops))
	}
	return c
}

// codes: of a block, with every number of registers; the first is the one with 3.
func codes(t *testing.T, b api.Block) []code {
	t.Helper()
	if err, at := ir.Check(b); err != api.OK {
		t.Fatalf("the test's own block has the error %d, %d:%s", err, at, told(b.Ops))
	}
	var list []code
	for regs := 3; regs <= 16; regs++ {
		list = append(list, made(t, b, regs))
	}
	return list
}

// leftBy: how the host is left, but for At, where Eval of a block tells an exit.
func leftBy(b api.Block, c api.Context, m *mem.Memory, x api.Exit) api.Left {
	out := api.Left{Kind: api.LeftOn, Stop: x.Stop, PC: x.PC, N: x.N}
	switch {
	case x.Stop.Kind != api.Going:
		out.Kind = api.LeftStop
	case byRegister(b, c, m):
		out.Kind = api.LeftTo
	}
	return out
}

// same: code does what Eval of the block does, from a context and a memory in
// which no page is told (P8.2); the context behind it, and how it is left.
func same(t *testing.T, b api.Block, list []code, c api.Context, m *mem.Memory) (api.Context, api.Left) {
	t.Helper()
	v := *m
	d, x, err := ir.Eval(b, c, &v)
	if err != api.OK {
		t.Fatalf("the test's own block has the error %d", err)
	}
	want := leftBy(b, c, m, x)
	for n, k := range list {
		w := *m
		e, got := host.Run(k.words, 0, c, &w, b.Count, nil)
		want.At = got.At
		if got != want {
			t.Fatalf("P8.2 code %d: left by %+v, want %+v, from %x:%s", n, got, want, c, told(b.Ops))
		}
		if d != e {
			t.Fatalf("P8.2 code %d: context %x, want %x, from %x:%s", n, e, d, c, told(b.Ops))
		}
		if v != w {
			t.Fatalf("P8.2 code %d: the memories are unlike, from %x:%s", n, c, told(b.Ops))
		}
	}
	want.At = 0
	return d, want
}

// byRegister: is the block left by its gotot? An exit does not tell. But if a
// goto stood there, with a K that no other operation has, its exit would.
func byRegister(b api.Block, c api.Context, m *mem.Memory) bool {
	n := len(b.Ops) - 1
	if b.Ops[n].Kind != api.OpGotoT {
		return false
	}
	free := uint32(0)
	for used(b.Ops, free) {
		free++
	}
	ops := slices.Clone(b.Ops)
	ops[n] = api.Op{Kind: api.OpGoto, K: free, N: b.Ops[n].N}
	b.Ops = ops
	w := *m
	_, x, _ := ir.Eval(b, c, &w)
	return x.PC == free
}

func used(ops []api.Op, k uint32) bool {
	return slices.ContainsFunc(ops, func(o api.Op) bool { return o.K == k })
}

// does: P8.1 to P8.3 of a block with every number of registers, from one context and memory.
func does(t *testing.T, b api.Block, c api.Context, m *mem.Memory) (api.Context, api.Left) {
	t.Helper()
	return same(t, b, codes(t, b), c, m)
}

// chanceNumber: an end of the numbers, a small one, a place near an end of a page, or any.
func chanceNumber(r *rand.Rand) uint32 {
	list := []uint32{0, 0, 1, 2, 31, 32, 33, 0x7fffffff, 0x80000000, 0x80000001, 0xfffffffe, 0xffffffff, 0xffff, 0x10000, 0xfffd}
	switch r.Intn(5) {
	case 0, 1:
		return list[r.Intn(len(list))]
	case 2:
		return uint32(r.Intn(16))
	case 3:
		return uint32(256*(1+r.Intn(4)) - 3 + r.Intn(6))
	}
	return r.Uint32()
}

// chanceContext: any slots; those of the flags of every kind and of none, and with other bits than the four.
func chanceContext(r *rand.Rand) api.Context {
	var c api.Context
	for i := range c {
		c[i] = chanceNumber(r)
	}
	if r.Intn(4) > 0 {
		c[8] = uint32(r.Intn(15))
	}
	if r.Intn(2) == 0 {
		c[11] = uint32(r.Intn(16))
	}
	return c
}

// memories: some with any bytes, rights and watched pages, and one without rights; of none is a page told.
var memories = func() []*mem.Memory {
	r := rand.New(rand.NewSource(81))
	ms := []*mem.Memory{mem.New()}
	for n := range 8 {
		m := mem.New()
		bytes := make([]byte, api.MemSize)
		r.Read(bytes)
		m.Poke(0, bytes)
		for page := range api.Pages {
			rights := r.Intn(8)
			if n%4 != 0 && r.Intn(6) > 0 {
				rights = 3
			}
			m.Protect(page, rights)
			m.Mark(page, r.Intn(7) < n)
		}
		ms = append(ms, m)
	}
	return ms
}()

func chanceMemory(r *rand.Rand) *mem.Memory { return memories[r.Intn(len(memories))] }

// holds: P8.1 to P8.3 of a block with every number of registers, from some contexts and memories by chance.
func holds(t *testing.T, r *rand.Rand, b api.Block, contexts int) []code {
	t.Helper()
	list := codes(t, b)
	for range contexts {
		same(t, b, list, chanceContext(r), chanceMemory(r))
	}
	return list
}
