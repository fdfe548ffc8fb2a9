package opt_test

import (
	"math/rand"
	"testing"

	"crossgrain/api"
	"crossgrain/guest"
	"crossgrain/lift"
	"crossgrain/mem"
)

// writer lays operations by chance, of which the rules find much to do.
type writer struct {
	r      *rand.Rand
	ops    []api.Op
	given  []int
	slots  []int // that it gets and puts
	consts []uint32
	kinds  []int
	count  int
}

func newWriter(r *rand.Rand) *writer {
	slots := [][]int{{0, 1}, {8, 9, 10, 11}, {7, 8, 9, 10, 11}, {0, 8}, {0, 1, 2, 3, 4, 5, 6, 7, 8, 9, 10, 11}}
	kinds := [][]int{
		{1, 2, 3, 4, 5, 6, 7, 8, 9, 10, 11, 12, 13, 17},
		{1, 1, 2, 3, 3, 3, 4, 5, 6, 7, 8, 17},
		{1, 2, 3, 3, 3, 3, 17, 17, 17, 11},
		{1, 1, 1, 4, 4, 5, 6, 6, 7, 8, 3, 12, 13, 2},
		{2, 3, 3, 9, 10, 1, 3, 17, 12},
	}
	w := &writer{r: r, slots: slots[r.Intn(len(slots))], kinds: kinds[r.Intn(len(kinds))], count: r.Intn(65)}
	for range 1 + r.Intn(4) {
		w.consts = append(w.consts, chanceNumber(r))
	}
	return w
}

// take: the number of a value, of the last ones more often.
func (w *writer) take() int {
	n := len(w.given)
	if w.r.Intn(2) == 0 {
		n = min(n, 3)
	}
	return w.given[len(w.given)-1-w.r.Intn(n)]
}

func (w *writer) lay(o api.Op) {
	if gives(o.Kind) {
		w.given = append(w.given, len(w.ops))
	}
	w.ops = append(w.ops, o)
}

func (w *writer) number() uint32 { return w.consts[w.r.Intn(len(w.consts))] }

// op: an operation of a kind.
func (w *writer) op(kind int) api.Op {
	most := []int{4: 15, 5: 6, 7: 12, 8: 15, 9: 4, 10: 2, 17: 0}[kind]
	o := api.Op{Kind: kind, W: w.r.Intn(most + 1)}
	switch kind {
	case 1:
		o.K = w.number()
	case 2:
		o.W = w.slots[w.r.Intn(len(w.slots))]
	case 3:
		o.W, o.A = w.slots[w.r.Intn(len(w.slots))], w.take()
	case 4:
		o.A, o.B = w.take(), w.take()
	case 5, 8:
		o.A = w.take()
	case 6, 7:
		o.A, o.B, o.C = w.take(), w.take(), w.take()
	case 9, 12, 13, 16:
		o.A = w.take()
	case 10:
		o.A, o.B = w.take(), w.take()
	}
	if kind == 13 || kind == 14 {
		o.W = 1 + w.r.Intn(7)
	}
	if kind == 14 {
		o.B = int(w.r.Uint32())
	}
	if kind >= 9 && kind <= 15 {
		o.K = w.r.Uint32()
	}
	if kind >= 9 && kind <= 16 {
		o.N = w.r.Intn(w.count + 1)
	}
	return o
}

// chanceBlock: so many operations, of every kind.
func chanceBlock(r *rand.Rand, n int) api.Block {
	w := newWriter(r)
	w.lay(api.Op{Kind: 1 + r.Intn(2), W: 0})
	for len(w.ops) < n-1 {
		w.lay(w.op(w.kinds[r.Intn(len(w.kinds))]))
	}
	w.lay(w.op(14 + r.Intn(3)))
	return api.Block{PC: r.Uint32(), Count: w.count, Bytes: r.Intn(385), Ops: w.ops}
}

// P6.1 to P6.3 of blocks by chance.
func TestBlocksByChance(t *testing.T) {
	r := rand.New(rand.NewSource(66))
	var broke [9]int
	kinds, stops := map[int]int{}, map[int]int{}
	for range 20000 {
		b := chanceBlock(r, 2+r.Intn(40))
		for n, at := range breaks(b.Ops) {
			if at >= 0 {
				broke[n]++
			}
		}
		o := holds(t, r, b, 5)
		for _, p := range o.Ops {
			kinds[p.Kind]++
		}
		stops[same(t, b, o, chanceContext(r), chanceMemory(r)).Stop.Kind]++
	}
	for n := 1; n <= 8; n++ {
		if broke[n] < 500 {
			t.Errorf("only %d blocks break rule %d: this test tells little", broke[n], n)
		}
	}
	for kind := 1; kind <= 17; kind++ {
		if kinds[kind] < 500 {
			t.Errorf("only %d operations of the kind %d are left: this test tells little", kinds[kind], kind)
		}
	}
	for stop := range 8 {
		if stops[stop] < 200 {
			t.Errorf("only %d are left by the stop %d: this test tells little", stops[stop], stop)
		}
	}
}

// Likewise of long ones, up to MaxOps.
func TestLongBlocksByChance(t *testing.T) {
	r := rand.New(rand.NewSource(67))
	for range 150 {
		holds(t, r, chanceBlock(r, 100+r.Intn(300)), 4)
	}
	for range 10 {
		b := chanceBlock(r, api.MaxOps)
		if len(b.Ops) != api.MaxOps {
			t.Fatal("the test's own block has another length")
		}
		holds(t, r, b, 4)
	}
}

// chanceIns: an instruction as bytes, and which.
func chanceIns(r *rand.Rand) ([]byte, int) {
	for {
		x := api.Ins{Op: r.Intn(32)}
		if guest.Ends(x.Op) && r.Intn(8) > 0 {
			continue
		}
		list := []api.Ins{
			{Op: x.Op}, {Op: x.Op, D: r.Intn(8)}, {Op: x.Op, S: r.Intn(8)}, {Op: x.Op, D: r.Intn(8), S: r.Intn(8)},
			{Op: x.Op, D: r.Intn(8), O: r.Intn(16)}, {Op: x.Op, O: r.Intn(16)}, {Op: x.Op, D: r.Intn(8), S: r.Intn(8), O: r.Intn(16)},
		}
		x = list[r.Intn(len(list))]
		if r.Intn(2) == 0 {
			x.Imm = chanceNumber(r)
		}
		if b, err := guest.Encode(x); err == api.OK {
			return b, x.Op
		}
	}
}

// P6.1 to P6.3 of blocks that lift.Block makes.
func TestLiftedBlocks(t *testing.T) {
	r := rand.New(rand.NewSource(68))
	var ops, less int
	found := map[int]int{}
	for range 3000 {
		m := mem.New()
		var code []byte
		for range 1 + r.Intn(70) {
			x, op := chanceIns(r)
			found[op]++
			code = append(code, x...)
		}
		m.Poke(0x300, code)
		m.Protect(3, api.Run)
		m.Protect(4, api.Run)
		b := lift.Block(m, 0x300, 1+r.Intn(64))
		o := holds(t, r, b, 5)
		ops, less = ops+len(b.Ops), less+len(o.Ops)
	}
	if less*4 > ops*3 {
		t.Errorf("of %d operations %d are left: hardly less", ops, less)
	}
	for op := range 32 {
		if found[op] < 100 {
			t.Errorf("only %d instructions are %d: this test tells little", found[op], op)
		}
	}
}

// P6.1 to P6.3 of every block of few operations, of some that the rules bear on.
func TestEveryShortBlock(t *testing.T) {
	r := rand.New(rand.NewSource(69))
	blocks := 0
	var lay func(ops []api.Op, given []int)
	with := func(ops []api.Op, given []int, o api.Op) {
		next := append(ops[:len(ops):len(ops)], o)
		if gives(o.Kind) {
			given = append(given[:len(given):len(given)], len(ops))
		}
		lay(next, given)
	}
	lay = func(ops []api.Op, given []int) {
		blocks++
		holds(t, r, blockOf(append(ops[:len(ops):len(ops)], api.Op{Kind: 15, K: 9, N: 3})...), 1)
		if len(ops) == 4 {
			return
		}
		for _, o := range []api.Op{{Kind: 1}, {Kind: 1, K: 3}, {Kind: 2}, {Kind: 2, W: 8}, {Kind: 11}, {Kind: 17}} {
			with(ops, given, o)
		}
		for _, a := range given {
			for _, o := range []api.Op{{Kind: 3}, {Kind: 3, W: 8}, {Kind: 5, W: 6}, {Kind: 9}, {Kind: 12, K: 5, N: 1}} {
				o.A = a
				with(ops, given, o)
			}
			with(ops, given, api.Op{Kind: 4, W: 1, A: given[0], B: a})
			with(ops, given, api.Op{Kind: 6, A: given[0], B: a, C: given[len(given)-1]})
		}
	}
	lay(nil, nil)
	if blocks < 10000 {
		t.Errorf("only %d blocks: this test tells little", blocks)
	}
}
