package engine_test

import (
	"maps"
	"slices"
	"testing"

	"crossgrain/api"
	"crossgrain/engine"
	"crossgrain/gen"
	"crossgrain/guest"
	"crossgrain/host"
	"crossgrain/interp"
	"crossgrain/ir"
	"crossgrain/lift"
	"crossgrain/mem"
	"crossgrain/opt"
)

const every = api.Read | api.Write | api.Run

// roomy: options by which nothing is left out.
func roomy() api.Options {
	return api.Options{Words: 40000, Slots: 8, Most: api.MaxBlock, Regs: 8, Opt: true, Chain: true}
}

// options: of all sorts.
func options() []api.Options {
	var list []api.Options
	for _, words := range []int{1, 40, 150, 40000} {
		for _, hot := range []int{0, 1, 4} {
			for k := range 4 {
				list = append(list, api.Options{
					Words: words, Slots: 1 + 6*k, Most: []int{1, 2, 7, api.MaxBlock}[k], Regs: []int{5, 16, 3, 9}[k],
					Hot: hot, Opt: k%2 == 1, Chain: (k+hot)%3 > 0,
				})
			}
		}
	}
	return list
}

// some: a few of these, for tests that try much with each.
func some() []api.Options {
	list := []api.Options{roomy(), roomy(), roomy(), roomy(), roomy(), roomy()}
	list[1].Chain, list[1].Opt = false, false
	list[2].Most, list[2].Slots, list[2].Regs = 2, 1, 3
	list[3].Hot, list[3].Most = 1, 5
	list[4].Words, list[4].Most = 60, 3
	list[5].Words = 1
	return list
}

// ground: pages 0 to 2 have all rights, page 4 and 5 may be read and written, page
// 6 read, and the last one has all; code lies from 0 on.
func ground(code ...byte) *mem.Memory {
	m := mem.New()
	for page, rights := range map[int]int{0: every, 1: every, 2: every, 4: 3, 5: 3, 6: 1, 255: every} {
		m.Protect(page, rights)
	}
	m.Poke(0, code)
	return m
}

// stack is a place for R7, in page 5.
const stack = 0x5f0

// copied: another memory, the same in all, its marks too.
func copied(m *mem.Memory) *mem.Memory {
	w := *m
	return &w
}

// alike: the same bytes and rights, whatever the marks. Both are written over.
func alike(m, w *mem.Memory) bool {
	for page := range api.Pages {
		m.Mark(page, false)
		w.Mark(page, false)
	}
	return *m == *w
}

// made is a block of the account: its code as it was made, which of its words
// lead, and where to.
type made struct {
	pc    uint32
	begin int
	count int
	code  []uint32
	pages []int
	leads map[int]uint32
	gone  bool
}

// exit: the word, of those of the code, at which it is left for a place that it
// knows: by its if, if it has one and that is so, else by its leave.
func (b *made) exit(taken bool) int {
	at := map[int]int{}
	for word := 0; word < len(b.code); {
		x, n, _ := host.Decode(b.code, word)
		at[x.Op] = word
		word += n
	}
	if word, ok := at[api.HIf]; ok && taken {
		return word
	}
	return at[api.HLeave]
}

// account is chapter 10, told plainly: a guest that goes step by step over a
// memory of its own, and what is to be in the cache then. What it takes of the
// other packages are steps, and the code of a block.
type account struct {
	w     *mem.Memory
	o     api.Options
	comes map[uint32]int
	made  []*made // since all was flushed
	noted map[uint32]uint32
	stuck int // how often a place had no room for its code
	drops int // blocks that are gone for their bytes were changed
}

func (a *account) find(pc uint32) *made {
	for _, b := range a.made {
		if b.pc == pc && !b.gone {
			return b
		}
	}
	return nil
}

func (a *account) used() int {
	n := 0
	for _, b := range a.made {
		n += len(b.code)
	}
	return n
}

func (a *account) empty() { a.made, a.noted = nil, map[uint32]uint32{} }

func (a *account) flush() {
	a.empty()
	a.comes = map[uint32]int{}
	for page := range api.Pages {
		a.w.Mark(page, false)
	}
}

// come: to a place, of which there is a block then or not.
func (a *account) come(pc uint32) *made {
	before := a.comes[pc]
	a.comes[pc]++
	if b := a.find(pc); b != nil || before < a.o.Hot {
		return b
	}
	x := lift.Block(a.w, pc, a.o.Most)
	if x.Count == 0 {
		return nil
	}
	b := &made{pc: pc, count: x.Count, leads: map[int]uint32{}}
	for i := range x.Bytes {
		b.pages = append(b.pages, (int(pc)+i)/api.PageSize)
	}
	if a.o.Opt {
		x = opt.Block(x)
	}
	b.code, _ = gen.Code(x, a.o.Regs)
	for _, page := range b.pages {
		a.w.Mark(page, true)
	}
	if len(b.code) > a.o.Words {
		a.stuck++
		return nil
	}
	if a.used()+len(b.code) > a.o.Words {
		a.empty()
	}
	b.begin = a.used()
	a.made = append(a.made, b)
	return b
}

// settle: what was made of pages that are told is gone.
func (a *account) settle() {
	for _, page := range a.w.Changed() {
		a.w.Mark(page, false)
		for _, b := range a.made {
			if !b.gone && slices.Contains(b.pages, page) {
				b.gone = true
				a.drops++
			}
		}
	}
	for _, b := range a.made {
		maps.DeleteFunc(b.leads, func(_ int, to uint32) bool { return a.find(to) == nil })
	}
	maps.DeleteFunc(a.noted, func(_, pc uint32) bool { return a.find(pc) == nil })
}

func (a *account) run(s api.State, n int) (api.State, api.Stop, int) {
	s.F &= 15
	a.settle()
	done := 0
	for done < n {
		var stop api.Stop
		k := 0
		if b := a.come(s.PC); b != nil {
			s, stop, k = a.blocks(b, s, n-done)
		}
		if k == 0 && stop.Kind == api.Going {
			s, stop, k = interp.Run(a.w, s, 1)
		}
		done += k
		a.settle()
		if stop.Kind != api.Going {
			return s, stop, done
		}
	}
	return s, api.Stop{}, done
}

// blocks: one, and those that it leads to, up to where it is left.
func (a *account) blocks(b *made, s api.State, left int) (api.State, api.Stop, int) {
	for done := 0; ; {
		if b.count > left-done || a.w.Touched() {
			return s, api.Stop{}, done
		}
		var x api.Ins
		for range b.count {
			var stop api.Stop
			var k int
			bytes, _ := a.w.Peek(int(s.PC), min(6, api.MemSize-int(s.PC)))
			x, _, _ = guest.Decode(bytes)
			s, stop, k = interp.Run(a.w, s, 1)
			done += k
			if stop.Kind != api.Going || stores(x.Op) && a.w.Touched() {
				return s, stop, done
			}
		}
		if b = a.next(b, x, s); b == nil {
			return s, api.Stop{}, done
		}
	}
}

// stores: is it one of those behind which a block is left?
func stores(op int) bool {
	return op == api.Store || op == api.Xchg || op == api.Xadd || op == api.Cas || op == api.Push || op == api.Pushf
}

// next: the block to which one leads that ends with x; else it leads from now on.
func (a *account) next(b *made, x api.Ins, s api.State) *made {
	slot := s.PC % uint32(a.o.Slots)
	switch x.Op {
	case api.Ret, api.JmpR, api.CallR, api.JmpM:
		if to, ok := a.noted[slot]; ok && to == s.PC {
			return a.find(to)
		}
		if a.o.Chain && a.find(s.PC) != nil {
			a.noted[slot] = s.PC
		}
		return nil
	}
	taken := (x.Op == api.Jcc || x.Op == api.Jcc8) && interp.Holds(x.O, s.F)
	word := b.exit(taken)
	if to, ok := b.leads[word]; ok {
		return a.find(to)
	}
	if a.o.Chain && a.find(s.PC) != nil {
		b.leads[word] = s.PC
	}
	return nil
}

// words: those of the cache.
func (a *account) words() []uint32 {
	w := make([]uint32, a.used())
	for _, b := range a.made {
		if b.gone {
			continue
		}
		copy(w[b.begin:], b.code)
		for word, to := range b.leads {
			x, _, _ := host.Decode(b.code, word)
			x.Op = map[int]int{api.HIf: api.HIfOn, api.HLeave: api.HChain}[x.Op]
			x.K = uint32(a.find(to).begin)
			two, _ := host.Encode(x)
			copy(w[b.begin+word:], two)
		}
	}
	return w
}

func (a *account) table() []api.Entry {
	list := slices.Repeat([]api.Entry{{At: -1}}, a.o.Slots)
	for slot, pc := range a.noted {
		list[slot] = api.Entry{PC: pc, At: a.find(pc).begin}
	}
	return list
}

func (a *account) places() []uint32 {
	var list []uint32
	for _, b := range a.made {
		if !b.gone {
			list = append(list, b.pc)
		}
	}
	slices.Sort(list)
	return list
}

// trial is an engine, a guest that goes by steps alone, and the account, by the
// same calls.
type trial struct {
	t     *testing.T
	what  string
	o     api.Options
	e     *engine.Engine
	m     *mem.Memory // the engine's
	plain *mem.Memory
	a     *account
	spare [2]*mem.Memory // to be written over
	runs  int
	lefts map[int]int // how often the host was left so, of those that are tried behind a call
}

func open(t *testing.T, what string, o api.Options, m *mem.Memory) *trial {
	t.Helper()
	x := &trial{t: t, what: what, o: o, m: copied(m), plain: copied(m), lefts: map[int]int{}}
	x.spare = [2]*mem.Memory{mem.New(), mem.New()}
	x.a = &account{w: copied(m), o: o}
	x.a.flush()
	e, err := engine.New(x.m, o)
	if e == nil || err != api.OK {
		t.Fatalf("P10.1 %s: New of %+v: %d", what, o, err)
	}
	x.e = e
	x.agrees()
	return x
}

// run: all three tell the same; and what is promised behind it is so.
func (x *trial) run(s api.State, n int) (api.State, api.Stop, int) {
	x.t.Helper()
	x.runs++
	got, stop, done := x.e.Run(s, n)
	want, wantStop, wantDone := interp.Run(x.plain, s, n)
	if got != want || stop != wantStop || done != wantDone {
		x.t.Fatalf("P10.2 %s, %+v: run %d, of %+v by %d: %+v, %v, %d, want %+v, %v, %d", x.what, x.o, x.runs, s, n, got, stop, done, want, wantStop, wantDone)
	}
	if !alike(x.spares(x.m, x.plain)) {
		x.t.Fatalf("P10.2 %s, %+v: run %d, of %+v by %d: the memory is another", x.what, x.o, x.runs, s, n)
	}
	if byAccount, _, _ := x.a.run(s, n); byAccount != want {
		x.t.Fatalf("%s: the account is wrong itself", x.what)
	}
	if x.m.Touched() {
		x.t.Fatalf("P10.4 %s, %+v: behind run %d a page is told", x.what, x.o, x.runs)
	}
	x.agrees()
	x.right(ir.Enter(got), 3)
	return got, stop, done
}

// spares: the same as these two, to be written over.
func (x *trial) spares(m, w *mem.Memory) (*mem.Memory, *mem.Memory) {
	*x.spare[0], *x.spare[1] = *m, *w
	return x.spare[0], x.spare[1]
}

// all: what somebody else does to the memory.
func (x *trial) all(do func(m *mem.Memory)) {
	x.t.Helper()
	do(x.m)
	do(x.plain)
	do(x.a.w)
	x.agrees()
}

func (x *trial) poke(at int, b ...byte) {
	x.t.Helper()
	x.all(func(m *mem.Memory) { m.Poke(at, b) })
}

func (x *trial) protect(page, rights int) {
	x.t.Helper()
	x.all(func(m *mem.Memory) { m.Protect(page, rights) })
}

func (x *trial) flush() {
	x.t.Helper()
	x.e.Flush()
	x.a.flush()
	x.agrees()
}

// agrees: is in the cache what the account says, word for word, and are the pages
// told of which it says so?
func (x *trial) agrees() {
	x.t.Helper()
	c := x.e.Cache()
	if got, want := c.Places(), x.a.places(); !slices.Equal(got, want) {
		x.t.Fatalf("P10.3 %s, %+v: behind run %d blocks of %x, want %x", x.what, x.o, x.runs, got, want)
	}
	if got, want := c.Words(), x.a.words(); !slices.Equal(got, want) {
		x.t.Fatalf("P10.3 %s, %+v: behind run %d words %x, want %x", x.what, x.o, x.runs, got, want)
	}
	if got, want := c.Table(), x.a.table(); !slices.Equal(got, want) {
		x.t.Fatalf("P10.3 %s, %+v: behind run %d a table of %v, want %v", x.what, x.o, x.runs, got, want)
	}
	if got, want := x.m.Touched(), x.a.w.Touched(); got != want {
		x.t.Fatalf("P10.4 %s, %+v: behind run %d, is a page told: %v, want %v", x.what, x.o, x.runs, got, want)
	}
}

// has: is there a block of a place?
func (x *trial) has(pc uint32) bool {
	_, ok := x.e.Cache().Find(pc)
	return ok
}

// wants: the very places of which there are to be blocks, as a test tells them.
func (x *trial) wants(places ...uint32) {
	x.t.Helper()
	if got := x.e.Cache().Places(); !slices.Equal(got, places) {
		x.t.Errorf("P10.3 %s, %+v: behind run %d blocks of %x, want %x", x.what, x.o, x.runs, got, places)
	}
}

// right: P10.4, of every by-th block, with a context and others like it.
func (x *trial) right(c api.Context, by int) {
	x.t.Helper()
	cache := x.e.Cache()
	words, table := cache.Words(), cache.Table()
	for i, pc := range cache.Places() {
		if (i+x.runs)%by != 0 {
			continue
		}
		at, _ := cache.Find(pc)
		enter, _, _ := host.Decode(words, at)
		for k, left := range []int{0, 1, enter.N - 1, enter.N, enter.N + 1, 40} {
			d := c
			d[(k+i)%8] += uint32(x.runs)
			d[api.SlotK], d[api.SlotA], d[api.SlotB] = uint32(k+x.runs)%15, c[1]+c[2], uint32(i)
			if k%2 == 0 {
				d = c
			}
			x.holds(pc, d, left, func(m *mem.Memory) (api.Context, api.Left) { return host.Run(words, at, d, m, left, table) })
		}
	}
}

// holds: what P10.4 says of one run of the host.
func (x *trial) holds(pc uint32, c api.Context, left int, run func(m *mem.Memory) (api.Context, api.Left)) {
	x.t.Helper()
	m, w := x.spares(x.m, x.m)
	d, l := run(m)
	x.lefts[l.Kind]++
	s, stop, n := interp.Run(w, ir.State(c, pc), l.N)
	good := l.N >= 0 && l.N <= left && n == l.N && ir.State(d, l.PC) == s && *m == *w
	switch l.Kind {
	case api.LeftStop:
		if l.Stop.Kind != api.StopSys {
			good = good && stop.Kind == api.Going
			_, stop = interp.Step(w, s)
		}
		good = good && l.Stop == stop
	case api.LeftShort:
		enter, _, err := host.Decode(x.e.Cache().Words(), l.At)
		good = good && stop.Kind == api.Going && err == api.OK && enter.Op == api.HEnter && enter.N > left-l.N
	default:
		good = good && stop.Kind == api.Going && l.N > 0 && l.Kind != api.LeftStuck
	}
	if !good {
		x.t.Fatalf("P10.4 %s, %+v: behind run %d the block at %x, from %v, with left %d: %+v, %+v; the steps: %+v, %v, %d", x.what, x.o, x.runs, pc, c, left, ir.State(d, l.PC), l, s, stop, n)
	}
}
