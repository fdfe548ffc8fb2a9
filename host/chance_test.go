package host_test

import (
	"math/rand"
	"testing"

	"crossgrain/api"
	"crossgrain/mem"
)

// builder lays blocks by chance, in which nearly all that is read was written.
type builder struct {
	r       *rand.Rand
	l       []api.Code
	written []int
	spilled []int
	starts  []uint32 // of the blocks, as their guest's places tell them
}

// reg: a register, nearly always one that was written.
func (b *builder) reg() int {
	if len(b.written) == 0 || b.r.Intn(200) == 0 {
		return b.r.Intn(16)
	}
	return b.written[b.r.Intn(len(b.written))]
}

func (b *builder) spill() int {
	if len(b.spilled) == 0 || b.r.Intn(100) == 0 {
		return []int{0, 1, 2, 3, 2047}[b.r.Intn(5)]
	}
	return b.spilled[b.r.Intn(len(b.spilled))]
}

// number: a place near the edges of the memory's pages, one of a block, a small one, or any.
func (b *builder) number() uint32 {
	switch b.r.Intn(5) {
	case 0:
		return uint32(b.r.Intn(5)*256 - 3 + b.r.Intn(5))
	case 1:
		return b.starts[b.r.Intn(len(b.starts))]
	case 2:
		return uint32(b.r.Intn(40))
	case 3:
		return uint32(65536 - b.r.Intn(6))
	}
	return b.r.Uint32()
}

// fill: an instruction of an Op, with fields by chance; K of chain and ifon is the number of a block.
func (b *builder) fill(op int) api.Code {
	s, _ := shapeOf(op)
	x := api.Code{Op: op}
	if s.has("D") {
		x.D = b.r.Intn(16)
	}
	if s.has("d") {
		x.D = b.reg()
	}
	if s.has("s") {
		x.D = 1 + b.r.Intn(7)
	}
	for letter, f := range map[string]*int{"A": &x.A, "B": &x.B, "C": &x.C} {
		if s.has(letter) {
			*f = b.reg()
		}
	}
	switch {
	case op == api.HLdc || op == api.HStc:
		x.N = b.r.Intn(12)
	case op == api.HLds || op == api.HSts:
		x.N = b.spill()
	case op == api.HChain || op == api.HIfOn || op == api.HLeaveT:
		// Never 0, so that every loop runs out of what is left soon.
		x.N = 1 + b.r.Intn(4)
	case s.has("N"):
		x.N = b.r.Intn(5)
	}
	switch {
	case op == api.HChain || op == api.HIfOn:
		x.K = uint32(b.r.Intn(len(b.starts)))
	case s.has("K"):
		x.K = b.number()
	}
	if s.has("X") {
		x.X = b.r.Uint32()
	}
	return x
}

func (b *builder) lay(x api.Code) {
	b.l = append(b.l, x)
	if s, _ := shapeOf(x.Op); s.has("D") {
		b.written = append(b.written, x.D)
	}
	if x.Op == api.HSts {
		b.spilled = append(b.spilled, x.N)
	}
}

// block: an enter, some instructions, and one that ends it.
func (b *builder) block(pc uint32) {
	b.written, b.spilled = nil, nil
	b.lay(enter(b.r.Intn(4), pc))
	b.lay(li(b.r.Intn(16), b.number()))
	list := ops()
	for range b.r.Intn(14) {
		op := list[b.r.Intn(len(list))]
		switch {
		case op == api.HEnter || op == api.HStop || op == api.HLeave || op == api.HChain || op == api.HLeaveT:
			continue
		case op == api.HLds && len(b.spilled) == 0:
			op = api.HSts
		case op == api.HIf || op == api.HStopIf:
			b.lay(bin(api.BEq, 15, b.reg(), b.reg())) // mostly 0, so that more is done
		case op >= api.HLoad && op <= api.HStore+2:
			b.lay(li(14, b.number()))
		}
		x := b.fill(op)
		switch {
		case op == api.HIf || op == api.HStopIf:
			x.A = 15
		case op >= api.HLoad && op <= api.HStore+2:
			x.A = 14
		}
		b.lay(x)
	}
	switch b.r.Intn(8) {
	case 0:
		b.lay(b.fill(api.HStop))
	case 1:
		b.lay(b.fill(api.HLeave))
	case 2, 3, 4:
		b.lay(li(13, b.starts[b.r.Intn(len(b.starts))]))
		x := b.fill(api.HLeaveT)
		x.A = 13
		b.lay(x)
	default:
		b.lay(b.fill(api.HChain))
	}
}

// words: where the blocks begin is what chain and ifon lead to, but for a few.
func (b *builder) words(t *testing.T) ([]uint32, []int) {
	var begins []int
	at := 0
	for _, x := range b.l {
		s, _ := shapeOf(x.Op)
		if x.Op == api.HEnter {
			begins = append(begins, at)
		}
		at += s.words()
	}
	l := append([]api.Code(nil), b.l...)
	for i := range l {
		if l[i].Op == api.HChain || l[i].Op == api.HIfOn {
			l[i].K = uint32(begins[l[i].K])
			if b.r.Intn(40) == 0 {
				l[i].K = uint32(b.r.Intn(at + 2))
			}
		}
	}
	return words(t, l...), begins
}

// table: of the blocks' places; some entries lead elsewhere, some nowhere.
func (b *builder) table(begins []int) []api.Entry {
	table := make([]api.Entry, b.r.Intn(9))
	for i := range table {
		table[i].At = -1
	}
	for i, pc := range b.starts {
		if len(table) > 0 && b.r.Intn(5) > 0 {
			table[int(pc)%len(table)] = api.Entry{PC: pc, At: begins[i] + b.r.Intn(30)/29}
		}
	}
	return table
}

func chanceMemory(r *rand.Rand) *mem.Memory {
	m := memory()
	for page := range 5 {
		m.Protect(page, []int{3, 3, 3, 1, 2, 0}[r.Intn(6)])
		m.Mark(page, r.Intn(3) == 0)
	}
	if r.Intn(40) == 0 {
		m.Mark(1, true)
		m.Poke(256, []byte{1})
	}
	return m
}

func TestRunByChance(t *testing.T) {
	r := rand.New(rand.NewSource(77))
	kinds := map[int]int{}
	stops := map[int]int{}
	far := 0
	for range 12000 {
		b := &builder{r: r}
		for i := range 1 + r.Intn(5) {
			b.starts = append(b.starts, uint32(100*i+r.Intn(100)))
		}
		for _, pc := range b.starts {
			b.block(pc)
		}
		w, begins := b.words(t)
		if r.Intn(10) == 0 {
			w[r.Intn(len(w))] ^= 1 << r.Intn(32)
		}
		at := begins[r.Intn(len(begins))]
		if r.Intn(50) == 0 {
			at = r.Intn(len(w)+3) - 1
		}
		var c api.Context
		for i := range c {
			c[i] = b.number()
		}
		c[8] = uint32(r.Intn(15))
		got := same(t, w, at, c, chanceMemory(r), r.Intn(60)-1, b.table(begins))
		kinds[got.Kind]++
		stops[got.Stop.Kind]++
		if got.N > 10 {
			far++
		}
	}
	for _, kind := range []int{api.LeftOn, api.LeftTo, api.LeftStop, api.LeftShort, api.LeftStuck} {
		if kinds[kind] < 1000 {
			t.Errorf("left by %d only %d times: this test tells little", kind, kinds[kind])
		}
	}
	for kind := api.StopSys; kind <= api.StopDivide; kind++ {
		if stops[kind] < 100 {
			t.Errorf("stop %d only %d times: this test tells little", kind, stops[kind])
		}
	}
	if far < 1000 {
		t.Errorf("more than 10 are done only %d times: this test tells little", far)
	}
}

// Words that are no code at all, or nearly so.
func TestRunOfAnyWords(t *testing.T) {
	r := rand.New(rand.NewSource(78))
	list := ops()
	for range 20000 {
		w := make([]uint32, r.Intn(12))
		for i := range w {
			w[i] = r.Uint32() >> r.Intn(32)
			if r.Intn(4) > 0 {
				w[i] = uint32(list[r.Intn(len(list))]) | r.Uint32()&0x00010100
			}
			if r.Intn(6) == 0 {
				w[i] = 1 << (16 * r.Intn(2)) & 0xffff
				w[i] |= 0x10001
			}
		}
		same(t, w, r.Intn(4)-1, context(), mem.New(), r.Intn(9), []api.Entry{{PC: 1, At: 0}})
	}
}
