package cache_test

import (
	"slices"
	"testing"

	"crossgrain/api"
	"crossgrain/cache"
	"crossgrain/host"
	"crossgrain/mem"
)

// The instructions that the tests lay, by their fields in the order of chapter 7's table.

func enter(n int, k uint32) api.Code      { return api.Code{Op: api.HEnter, N: n, K: k} }
func li(d int, k uint32) api.Code         { return api.Code{Op: api.HLi, D: d, K: k} }
func mov(d, a int) api.Code               { return api.Code{Op: api.HMov, D: d, A: a} }
func leavet(a, n int) api.Code            { return api.Code{Op: api.HLeaveT, A: a, N: n} }
func ldc(d, n int) api.Code               { return api.Code{Op: api.HLdc, D: d, N: n} }
func stc(a, n int) api.Code               { return api.Code{Op: api.HStc, A: a, N: n} }
func watch(n int, k uint32) api.Code      { return api.Code{Op: api.HWatch, N: n, K: k} }
func ifs(a, n int, k uint32) api.Code     { return api.Code{Op: api.HIf, A: a, N: n, K: k} }
func stop(d, n int, k, x uint32) api.Code { return api.Code{Op: api.HStop, D: d, N: n, K: k, X: x} }
func leave(n int, k uint32) api.Code      { return api.Code{Op: api.HLeave, N: n, K: k} }
func chain(n int, k uint32) api.Code      { return api.Code{Op: api.HChain, N: n, K: k} }
func ifon(a, n int, k uint32) api.Code    { return api.Code{Op: api.HIfOn, A: a, N: n, K: k} }

// size: how many words an instruction of those has.
func size(x api.Code) int {
	switch x.Op {
	case api.HMov, api.HLeaveT, api.HLdc, api.HStc:
		return 1
	case api.HStop:
		return 3
	}
	return 2
}

// lay: the words of such instructions.
func lay(list ...api.Code) []uint32 {
	var w []uint32
	for _, x := range list {
		first := uint32(x.Op | x.D<<8 | x.A<<12 | x.N<<16)
		w = append(w, []uint32{first, x.K, x.X}[:size(x)]...)
	}
	return w
}

// laid is a block of the account: what was handed in, and which of it leads.
type laid struct {
	pc    uint32
	begin int
	list  []api.Code
	led   []bool
	pages []int
	gone  bool
}

func (l *laid) words() int { return len(lay(l.list...)) }

// account is what lies where, told plainly: all blocks since the last flush, and
// which place each slot was noted for. Each question goes through all of it.
type account struct {
	room, slots int
	laid        []*laid
	noted       map[int]uint32
}

func (a *account) find(pc uint32) *laid {
	for _, l := range a.laid {
		if l.pc == pc && !l.gone {
			return l
		}
	}
	return nil
}

func (a *account) used() int {
	n := 0
	for _, l := range a.laid {
		n += l.words()
	}
	return n
}

func (a *account) flush() { a.laid, a.noted = nil, map[int]uint32{} }

// insert: of instructions that are a block's at pc, or, if bad, are not.
func (a *account) insert(pc uint32, pages []int, list []api.Code, bad bool) (int, api.Errno) {
	for _, page := range pages {
		if page < 0 || page > 255 {
			return 0, api.ErrArg
		}
	}
	l := &laid{pc: pc, list: slices.Clone(list), led: make([]bool, len(list)), pages: slices.Clone(pages)}
	switch {
	case bad:
		return 0, api.ErrForm
	case a.find(pc) != nil:
		return 0, api.ErrHas
	case l.words() > a.room:
		return 0, api.ErrLarge
	case a.used()+l.words() > a.room:
		a.flush()
	}
	l.begin = a.used()
	a.laid = append(a.laid, l)
	return l.begin, api.OK
}

func (a *account) link(at int) api.Errno {
	for _, l := range a.laid {
		word := l.begin
		for i, x := range l.list {
			if word == at && !l.gone && !l.led[i] && (x.Op == api.HLeave || x.Op == api.HIf) {
				if a.find(x.K) == nil {
					return api.ErrNone
				}
				l.led[i] = true
				return api.OK
			}
			word += size(x)
		}
	}
	return api.ErrArg
}

func (a *account) note(pc uint32) api.Errno {
	if a.find(pc) == nil {
		return api.ErrNone
	}
	a.noted[int(int64(pc)%int64(a.slots))] = pc
	return api.OK
}

func (a *account) drop(page int) int {
	n := 0
	for _, l := range a.laid {
		if !l.gone && slices.Contains(l.pages, page) {
			l.gone = true
			n++
		}
	}
	for _, l := range a.laid {
		for i, x := range l.list {
			l.led[i] = l.led[i] && a.find(x.K) != nil
		}
	}
	for slot, pc := range a.noted {
		if a.find(pc) == nil {
			delete(a.noted, slot)
		}
	}
	return n
}

func (a *account) places() []uint32 {
	var out []uint32
	for _, l := range a.laid {
		if !l.gone {
			out = append(out, l.pc)
		}
	}
	slices.Sort(out)
	return out
}

func (a *account) words() []uint32 {
	var out []uint32
	for _, l := range a.laid {
		if l.gone {
			out = append(out, make([]uint32, l.words())...)
			continue
		}
		for i, x := range l.list {
			if l.led[i] {
				x.Op = map[int]int{api.HLeave: api.HChain, api.HIf: api.HIfOn}[x.Op]
				x.K = uint32(a.find(x.K).begin)
			}
			out = append(out, lay(x)...)
		}
	}
	return out
}

func (a *account) table() []api.Entry {
	out := make([]api.Entry, a.slots)
	for slot := range out {
		out[slot].At = -1
		if pc, ok := a.noted[slot]; ok {
			out[slot] = api.Entry{PC: pc, At: a.find(pc).begin}
		}
	}
	return out
}

// both is a cache and the account of it: each call is done by both.
type both struct {
	t *testing.T
	c *cache.Cache
	a *account
}

func open(t *testing.T, words, slots int) *both {
	t.Helper()
	c, err := cache.New(words, slots)
	if c == nil || err != api.OK {
		t.Fatalf("New(%d, %d): %d", words, slots, err)
	}
	b := &both{t, c, &account{room: words, slots: slots, noted: map[int]uint32{}}}
	b.same("New")
	return b
}

// same: does the cache tell of itself what the account does?
func (b *both) same(what string) {
	b.t.Helper()
	if got, want := b.c.Words(), b.a.words(); !slices.Equal(got, want) {
		b.t.Fatalf("behind %s: words %x, want %x", what, got, want)
	}
	if got, want := b.c.Table(), b.a.table(); !slices.Equal(got, want) {
		b.t.Fatalf("behind %s: table %v, want %v", what, got, want)
	}
	if got, want := b.c.Used(), b.a.used(); got != want {
		b.t.Fatalf("behind %s: used %d, want %d", what, got, want)
	}
	places := b.a.places()
	if got := b.c.Places(); !slices.Equal(got, places) {
		b.t.Fatalf("behind %s: places %v, want %v", what, got, places)
	}
	for _, pc := range append(places, 0, 1, 10, 12, 65536, 0xffffffff) {
		want := 0
		l := b.a.find(pc)
		if l != nil {
			want = l.begin
		}
		if at, ok := b.c.Find(pc); at != want || ok != (l != nil) {
			b.t.Fatalf("behind %s: Find(%d) = %d, %v, want %d, %v", what, pc, at, ok, want, l != nil)
		}
	}
}

// insert: a block's code.
func (b *both) insert(pc uint32, pages []int, list ...api.Code) (int, api.Errno) {
	b.t.Helper()
	return b.insertWords(pc, pages, list, lay(list...), false)
}

// insertWords: code, which is that of a list or else, if bad, of no block at pc.
func (b *both) insertWords(pc uint32, pages []int, list []api.Code, code []uint32, bad bool) (int, api.Errno) {
	b.t.Helper()
	wasCode, wasPages := slices.Clone(code), slices.Clone(pages)
	at, err := b.c.Insert(pc, pages, code)
	wantAt, want := b.a.insert(pc, pages, list, bad)
	if at != wantAt || err != want {
		b.t.Fatalf("P9.1 Insert(%d, %v, %x) = %d, %d, want %d, %d", pc, pages, code, at, err, wantAt, want)
	}
	if !slices.Equal(code, wasCode) || !slices.Equal(pages, wasPages) {
		b.t.Fatalf("P0 Insert(%d, %v, %x): what was handed in is another now", pc, wasPages, wasCode)
	}
	b.same("Insert")
	return at, err
}

func (b *both) link(at int) api.Errno {
	b.t.Helper()
	err, want := b.c.Link(at), b.a.link(at)
	if err != want {
		b.t.Fatalf("P9.3 Link(%d) = %d, want %d", at, err, want)
	}
	b.same("Link")
	return err
}

func (b *both) note(pc uint32) api.Errno {
	b.t.Helper()
	err, want := b.c.Note(pc), b.a.note(pc)
	if err != want {
		b.t.Fatalf("P9.3 Note(%d) = %d, want %d", pc, err, want)
	}
	b.same("Note")
	return err
}

func (b *both) drop(page int) int {
	b.t.Helper()
	n, want := b.c.Drop(page), b.a.drop(page)
	if n != want {
		b.t.Fatalf("P9.4 Drop(%d) = %d, want %d", page, n, want)
	}
	b.same("Drop")
	return n
}

func (b *both) flush() {
	b.t.Helper()
	b.c.Flush()
	b.a.flush()
	b.same("Flush")
}

// run: by the cache, and by the host on the account's words and table.
func (b *both) run(at int, x api.Context, m *mem.Memory, left int) (api.Context, api.Left) {
	b.t.Helper()
	m2 := *m
	y, l := b.c.Run(at, x, m, left)
	wantY, want := host.Run(b.a.words(), at, x, &m2, left, b.a.table())
	if y != wantY || l != want || *m != m2 {
		b.t.Fatalf("P9.5 Run(%d, %v, %d) = %v, %+v, want %v, %+v", at, x, left, y, l, wantY, want)
	}
	b.same("Run")
	return y, l
}
