package gen_test

import (
	"math/rand"
	"testing"

	"crossgrain/api"
	"crossgrain/gen"
	"crossgrain/guest"
	"crossgrain/host"
	"crossgrain/ir"
	"crossgrain/lift"
	"crossgrain/mem"
	"crossgrain/opt"
)

// writer lays operations by chance, of which registers have much to hold.
type writer struct {
	r     *rand.Rand
	ops   []api.Op
	given []int
	slots []int // that it gets and puts
	kinds []int
	near  int // of how many of the last values it takes one mostly
	count int
}

func newWriter(r *rand.Rand) *writer {
	slots := [][]int{{0, 1}, {8, 9, 10, 11}, {7, 8, 9, 10, 11}, {0, 8}, {0, 1, 2, 3, 4, 5, 6, 7, 8, 9, 10, 11}}
	kinds := [][]int{
		{1, 2, 3, 4, 5, 6, 7, 8, 9, 10, 11, 12, 13, 17},
		{1, 2, 2, 3, 3, 4, 5, 6, 7, 8, 17},
		{2, 2, 3, 3, 3, 17, 4},
		{1, 4, 4, 5, 6, 6, 7, 7, 8, 2},
		{2, 3, 9, 9, 10, 1, 4, 4, 4},
		{6, 7, 6, 7, 6, 7, 4, 17, 9},
	}
	return &writer{
		r:     r,
		slots: slots[r.Intn(len(slots))],
		kinds: kinds[r.Intn(len(kinds))],
		near:  []int{1, 3, 5, 8, 20, 1000}[r.Intn(6)],
		count: r.Intn(65),
	}
}

func (w *writer) take() int {
	n := len(w.given)
	if w.r.Intn(4) > 0 {
		n = min(n, w.near)
	}
	return w.given[len(w.given)-1-w.r.Intn(n)]
}

func (w *writer) lay(o api.Op) {
	if ir.Gives(o.Kind) {
		w.given = append(w.given, len(w.ops))
	}
	w.ops = append(w.ops, o)
}

// op: an operation of a kind.
func (w *writer) op(kind int) api.Op {
	most := []int{4: 15, 5: 6, 7: 12, 8: 15, 9: 4, 10: 2, 17: 0}[kind]
	o := api.Op{Kind: kind, W: w.r.Intn(most + 1)}
	switch kind {
	case 1:
		o.K = chanceNumber(w.r)
	case 2, 3:
		o.W = w.slots[w.r.Intn(len(w.slots))]
	case 13, 14:
		o.W = 1 + w.r.Intn(7)
	}
	switch kind {
	case 6, 7:
		o.C = w.take()
		fallthrough
	case 4, 10:
		o.B = w.take()
		fallthrough
	case 3, 5, 8, 9, 12, 13, 16:
		o.A = w.take()
	case 14:
		o.B = int(w.r.Uint32())
	}
	if kind >= 9 && kind <= 15 {
		o.K = w.r.Uint32()
	}
	if kind >= 9 && kind <= 16 {
		o.N = w.r.Intn(w.count + 1)
	}
	return o
}

// chanceBlock: so many operations, of every kind.
func chanceBlock(r *rand.Rand, n int) api.Block {
	w := newWriter(r)
	w.lay(w.op([]int{1, 2, 17}[r.Intn(3)]))
	for len(w.ops) < n-1 {
		kind := w.kinds[r.Intn(len(w.kinds))]
		// Most blocks would be left by the first of these.
		if (kind == 12 || kind == 13) && r.Intn(3) > 0 {
			kind = 3
		}
		w.lay(w.op(kind))
		if len(w.ops) == n/2 && r.Intn(2) == 0 {
			// From here on the values of before are taken: up to here they are wanted all at once.
			w.kinds, w.near = []int{4, 3, 10, 6}, 1000
		}
	}
	w.lay(w.op(14 + r.Intn(3)))
	return api.Block{PC: r.Uint32(), Count: w.count, Bytes: r.Intn(385), Ops: w.ops}
}

// P8.1 to P8.3 of blocks by chance.
func TestBlocksByChance(t *testing.T) {
	r := rand.New(rand.NewSource(84))
	spills, ends := [14]int{}, 0
	left, stops := map[int]int{}, map[int]int{}
	for range 4000 {
		b := chanceBlock(r, 2+r.Intn(80))
		list := holds(t, r, b, 2)
		for i, k := range list {
			spills[i] += k.spills
		}
		_, x := same(t, b, list, chanceContext(r), chanceMemory(r))
		left[x.Kind]++
		stops[x.Stop.Kind]++
		if last := b.Ops[len(b.Ops)-1]; x.N == last.N && x.PC == last.K {
			ends++
		}
	}
	for i, n := range spills {
		if n < 100 || i > 0 && n > spills[i-1] {
			t.Errorf("with %d registers %d instructions move spills", i+3, n)
		}
	}
	for _, kind := range []int{api.LeftOn, api.LeftTo, api.LeftStop} {
		if left[kind] < 300 {
			t.Errorf("only %d are left by %d: this test tells little", left[kind], kind)
		}
	}
	for stop := range 8 {
		if stops[stop] < 50 {
			t.Errorf("only %d are left by the stop %d: this test tells little", stops[stop], stop)
		}
	}
	if ends < 500 {
		t.Errorf("only %d come to their end: this test tells little", ends)
	}
}

// Likewise of long ones, up to MaxOps.
func TestLongBlocksByChance(t *testing.T) {
	r := rand.New(rand.NewSource(85))
	for range 100 {
		holds(t, r, chanceBlock(r, 100+r.Intn(300)), 4)
	}
	for range 15 {
		b := chanceBlock(r, api.MaxOps)
		if len(b.Ops) != api.MaxOps {
			t.Fatal("the test's own block has another length")
		}
		holds(t, r, b, 4)
	}
}

// P8.3: with a page that is told, too few left, any table and any memory, it is never stuck.
func TestNeverStuck(t *testing.T) {
	r := rand.New(rand.NewSource(86))
	told := *memories[3]
	told.Mark(7, true)
	told.Poke(7*api.PageSize, []byte{1})
	kinds := map[int]int{}
	for range 5000 {
		b := chanceBlock(r, 2+r.Intn(30))
		w, err := gen.Code(b, 3+r.Intn(14))
		if err != api.OK {
			t.Fatalf("P8.1 Code: %d", err)
		}
		var m *mem.Memory
		switch r.Intn(5) {
		case 0:
			m = &told
		case 1, 2, 3:
			v := *chanceMemory(r)
			m = &v
		}
		table := []api.Entry{{PC: r.Uint32(), At: -1}, {PC: uint32(r.Intn(3)), At: r.Intn(4) - 1}}
		_, left := host.Run(w, 0, chanceContext(r), m, r.Intn(200)-20, table[:r.Intn(3)])
		if left.Kind == api.LeftStuck {
			t.Fatalf("P8.3 %+v", left)
		}
		kinds[left.Kind]++
	}
	for _, kind := range []int{api.LeftOn, api.LeftTo, api.LeftStop, api.LeftShort} {
		if kinds[kind] < 100 {
			t.Errorf("only %d are left by %d: this test tells little", kinds[kind], kind)
		}
	}
}

// chanceIns: an instruction as bytes, and which.
func chanceIns(r *rand.Rand) ([]byte, int) {
	for {
		x := api.Ins{Op: r.Intn(32)}
		if guest.Ends(x.Op) && r.Intn(8) > 0 {
			continue
		}
		list := []api.Ins{
			{Op: x.Op}, {Op: x.Op, D: r.Intn(8)}, {Op: x.Op, S: r.Intn(8)}, {Op: x.Op, D: r.Intn(8), S: r.Intn(8)},
			{Op: x.Op, D: r.Intn(8), O: r.Intn(16)}, {Op: x.Op, O: r.Intn(16)}, {Op: x.Op, D: r.Intn(8), S: r.Intn(8), O: r.Intn(16)},
		}
		x = list[r.Intn(len(list))]
		if r.Intn(2) == 0 {
			x.Imm = chanceNumber(r)
		}
		if b, err := guest.Encode(x); err == api.OK {
			return b, x.Op
		}
	}
}

// P8.1 to P8.3 of blocks that lift.Block makes, and of what opt.Block makes of those.
func TestLiftedBlocks(t *testing.T) {
	r := rand.New(rand.NewSource(87))
	found := map[int]int{}
	for range 800 {
		m := mem.New()
		var code []byte
		for range 1 + r.Intn(70) {
			x, op := chanceIns(r)
			found[op]++
			code = append(code, x...)
		}
		m.Poke(0x300, code)
		m.Protect(3, api.Run)
		m.Protect(4, api.Run)
		b := lift.Block(m, 0x300, 1+r.Intn(64))
		holds(t, r, b, 4)
		holds(t, r, opt.Block(b), 4)
	}
	for op := range 32 {
		if found[op] < 50 {
			t.Errorf("only %d instructions are %d: this test tells little", found[op], op)
		}
	}
}

// P8.1 to P8.3 of every block of few operations: of some that give, and that take what these give.
func TestEveryShortBlock(t *testing.T) {
	r := rand.New(rand.NewSource(88))
	blocks := 0
	var lay func(ops []api.Op, given []int)
	with := func(ops []api.Op, given []int, o api.Op) {
		next := append(ops[:len(ops):len(ops)], o)
		if ir.Gives(o.Kind) {
			given = append(given[:len(given):len(given)], len(ops))
		}
		lay(next, given)
	}
	lay = func(ops []api.Op, given []int) {
		blocks++
		last := api.Op{Kind: api.OpGoto, K: 9, N: 3}
		if len(given) > 0 && blocks%2 == 0 {
			last = api.Op{Kind: api.OpGotoT, A: given[r.Intn(len(given))], N: 2}
		}
		b := blockOf(append(ops[:len(ops):len(ops)], last)...)
		k := made(t, b, 3)
		same(t, b, []code{k}, chanceContext(r), chanceMemory(r))
		if len(ops) == 4 {
			return
		}
		for _, o := range []api.Op{{Kind: 1, K: 3}, {Kind: 2}, {Kind: 2, W: 8}, {Kind: 11}, {Kind: 17}} {
			with(ops, given, o)
		}
		for _, a := range given {
			for _, o := range []api.Op{{Kind: 3}, {Kind: 3, W: 8}, {Kind: 5, W: 6}, {Kind: 9}, {Kind: 12, K: 5, N: 1}} {
				o.A = a
				with(ops, given, o)
			}
			with(ops, given, api.Op{Kind: 4, W: 1, A: given[0], B: a})
			with(ops, given, api.Op{Kind: 10, W: 2, A: a, B: given[0]})
			with(ops, given, api.Op{Kind: 6, A: given[0], B: a, C: given[len(given)-1]})
		}
	}
	lay(nil, nil)
	if blocks < 10000 {
		t.Errorf("only %d blocks: this test tells little", blocks)
	}
}
