package opt_test

import (
	"fmt"
	"math/rand"
	"slices"
	"testing"

	"crossgrain/api"
	"crossgrain/ir"
	"crossgrain/mem"
	"crossgrain/opt"
)

// The chapter's rules once more, word by word, each by looking at all pairs of
// operations, and without the package's code.

// takes: the numbers of the values that an operation takes.
func takes(o api.Op) []int {
	switch o.Kind {
	case 3, 5, 8, 9, 12, 13, 16:
		return []int{o.A}
	case 4, 10:
		return []int{o.A, o.B}
	case 6, 7:
		return []int{o.A, o.B, o.C}
	}
	return nil
}

func gives(kind int) bool { return slices.Contains([]int{1, 2, 4, 5, 6, 7, 8, 9, 17}, kind) }

func leaves(kind int) bool { return slices.Contains([]int{9, 10, 11, 12, 13}, kind) }

// breaks: for each rule the first operation that breaks it, or -1; the rule 0 is none.
func breaks(ops []api.Op) [9]int {
	rules := [9]func(ops []api.Op, j int) bool{
		1: breaks1, 2: breaks2, 3: breaks3, 4: breaks4, 5: breaks5, 6: breaks6, 7: breaks7, 8: breaks8,
	}
	var at [9]int
	for n, breaksIt := range rules {
		at[n] = -1
		for j := range ops {
			if n > 0 && breaksIt(ops, j) {
				at[n] = j
				break
			}
		}
	}
	return at
}

func breaks1(ops []api.Op, j int) bool {
	if !gives(ops[j].Kind) || ops[j].Kind == 9 {
		return false
	}
	for _, o := range ops[j+1:] {
		if slices.Contains(takes(o), j) {
			return false
		}
	}
	return true
}

func breaks2(ops []api.Op, j int) bool {
	o := ops[j]
	if o.Kind < 4 || o.Kind > 8 {
		return false
	}
	for _, n := range takes(o) {
		if ops[n].Kind != 1 {
			return o.Kind == 6 && ops[o.A].Kind == 1
		}
	}
	return true
}

func breaks3(ops []api.Op, j int) bool {
	o := ops[j]
	return (o.Kind == 12 || o.Kind == 13) && ops[o.A].Kind == 1
}

func breaks4(ops []api.Op, j int) bool {
	return slices.Contains([]int{1, 4, 5, 6, 7, 8}, ops[j].Kind) && slices.Contains(ops[:j], ops[j])
}

// lastOf: the last get or put of a slot among operations, or -1.
func lastOf(ops []api.Op, slot int) int {
	for i := len(ops) - 1; i >= 0; i-- {
		if (ops[i].Kind == 2 || ops[i].Kind == 3) && ops[i].W == slot {
			return i
		}
	}
	return -1
}

// valueAt: the number of the value that a get gives, a put puts.
func valueAt(ops []api.Op, i int) int {
	if ops[i].Kind == 2 {
		return i
	}
	return ops[i].A
}

func breaks5(ops []api.Op, j int) bool {
	return ops[j].Kind == 2 && lastOf(ops[:j], ops[j].W) >= 0
}

func breaks6(ops []api.Op, j int) bool {
	if ops[j].Kind != 3 {
		return false
	}
	slot := ops[j].W
	for _, o := range ops[j+1:] {
		if o.Kind == 3 && o.W == slot {
			return true
		}
		if leaves(o.Kind) || o.Kind == 2 && o.W == slot || o.Kind == 17 && slot >= 8 {
			return false
		}
	}
	return false
}

func breaks7(ops []api.Op, j int) bool {
	if ops[j].Kind != 3 {
		return false
	}
	i := lastOf(ops[:j], ops[j].W)
	return i >= 0 && valueAt(ops, i) == ops[j].A
}

func breaks8(ops []api.Op, j int) bool {
	if ops[j].Kind != 17 {
		return false
	}
	known := true
	for slot := 8; slot <= 11; slot++ {
		known = known && lastOf(ops[:j], slot) >= 0
	}
	if known && ops[valueAt(ops, lastOf(ops[:j], 8))].Kind == 1 {
		return true
	}
	for i := j - 1; i >= 0; i-- {
		if ops[i].Kind == 3 && ops[i].W >= 8 {
			return false
		}
		if ops[i].Kind == 17 {
			return true
		}
	}
	return false
}

// told: some operations as lines, for who reads what went wrong.
func told(ops []api.Op) string {
	names := []string{"?", "const", "get", "put", "bin", "un", "sel", "flags", "cond", "load", "store", "watch", "if", "stopif", "stop", "goto", "gotot", "now"}
	s := "\n"
	for i, o := range ops[:min(len(ops), 50)] {
		s += fmt.Sprintf("  %d %s W %d (%d, %d, %d) K %x N %d\n", i, names[max(0, o.Kind%len(names))], o.W, o.A, o.B, o.C, o.K, o.N)
	}
	return s
}

// blockOf: operations as a block of some instructions and bytes.
func blockOf(ops ...api.Op) api.Block { return api.Block{PC: 0x40, Count: 3, Bytes: 7, Ops: ops} }

// made: what opt.Block answers of a block that ir.Check does not refuse, held against P6.1 and P6.3.
func made(t *testing.T, b api.Block) api.Block {
	t.Helper()
	if err, at := ir.Check(b); err != api.OK {
		t.Fatalf("the test's own block has the error %d, %d:%s", err, at, told(b.Ops))
	}
	was := slices.Clone(b.Ops)
	o := opt.Block(b)
	if !slices.Equal(b.Ops, was) {
		t.Fatalf("P0 the operations that were handed in are others now:%s%s", told(was), told(b.Ops))
	}
	if o.PC != b.PC || o.Count != b.Count || o.Bytes != b.Bytes {
		t.Fatalf("P6.1 PC %d, Count %d, Bytes %d of PC %d, Count %d, Bytes %d", o.PC, o.Count, o.Bytes, b.PC, b.Count, b.Bytes)
	}
	if len(o.Ops) > len(b.Ops) {
		t.Fatalf("P6.1 %d operations of %d", len(o.Ops), len(b.Ops))
	}
	if err, at := ir.Check(o); err != api.OK {
		t.Fatalf("P6.1 Check of the answer is %d, %d:%s%s", err, at, told(b.Ops), told(o.Ops))
	}
	for n, at := range breaks(o.Ops) {
		if at >= 0 {
			t.Fatalf("P6.3 rule %d, operation %d:%s%s", n, at, told(b.Ops), told(o.Ops))
		}
	}
	return o
}

// same: from a context and a memory, a block and its answer do the same (P6.2): the exit.
func same(t *testing.T, b, o api.Block, c api.Context, m *mem.Memory) api.Exit {
	t.Helper()
	v, w := *m, *m
	d, x, _ := ir.Eval(b, c, &v)
	e, y, err := ir.Eval(o, c, &w)
	if err != api.OK || x != y {
		t.Fatalf("P6.2 exit %+v, want %+v, from %x:%s%s", y, x, c, told(b.Ops), told(o.Ops))
	}
	if p, q := ir.State(d, x.PC), ir.State(e, y.PC); p != q {
		t.Fatalf("P6.2 state %x, want %x, from %x:%s%s", q, p, c, told(b.Ops), told(o.Ops))
	}
	if v != w {
		t.Fatalf("P6.2 the memories are unlike, from %x:%s%s", c, told(b.Ops), told(o.Ops))
	}
	return x
}

// chanceNumber: an end of the numbers, a small one, a place near an end of a page, or any.
func chanceNumber(r *rand.Rand) uint32 {
	list := []uint32{0, 0, 1, 2, 31, 32, 33, 0x7fffffff, 0x80000000, 0x80000001, 0xfffffffe, 0xffffffff, 0xffff, 0x10000, 0xfffd}
	switch r.Intn(5) {
	case 0, 1:
		return list[r.Intn(len(list))]
	case 2:
		return uint32(r.Intn(16))
	case 3:
		return uint32(256*(1+r.Intn(4)) - 3 + r.Intn(6))
	}
	return r.Uint32()
}

// chanceContext: any slots; those of the flags of every kind and of none, and with other bits than the four.
func chanceContext(r *rand.Rand) api.Context {
	var c api.Context
	for i := range c {
		c[i] = chanceNumber(r)
	}
	if r.Intn(4) > 0 {
		c[8] = uint32(r.Intn(15))
	}
	if r.Intn(2) == 0 {
		c[11] = uint32(r.Intn(16))
	}
	return c
}

// memories: some with any bytes, rights and watched pages; of one a page is told already, one has no rights at all.
var memories = func() []*mem.Memory {
	r := rand.New(rand.NewSource(61))
	ms := []*mem.Memory{mem.New()}
	for n := range 6 {
		m := mem.New()
		bytes := make([]byte, api.MemSize)
		r.Read(bytes)
		m.Poke(0, bytes)
		for page := range api.Pages {
			rights := r.Intn(8)
			if n%2 == 0 && r.Intn(5) > 0 {
				rights = 3
			}
			m.Protect(page, rights)
			m.Mark(page, r.Intn(6) < n)
		}
		if n == 3 {
			m.Mark(9, true)
			m.Poke(9*api.PageSize, []byte{1})
		}
		ms = append(ms, m)
	}
	return ms
}()

func chanceMemory(r *rand.Rand) *mem.Memory { return memories[r.Intn(len(memories))] }

// holds: P6.1 and P6.3 of a block, P6.2 from some contexts and memories by chance; and the answer is clean already.
func holds(t *testing.T, r *rand.Rand, b api.Block, contexts int) api.Block {
	t.Helper()
	o := made(t, b)
	if again := opt.Block(o); !slices.Equal(again.Ops, o.Ops) {
		t.Fatalf("P6.3 made clean again it is another:%s%s%s", told(b.Ops), told(o.Ops), told(again.Ops))
	}
	for range contexts {
		same(t, b, o, chanceContext(r), chanceMemory(r))
	}
	return o
}
