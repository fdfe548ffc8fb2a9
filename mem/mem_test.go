package mem_test

import (
	"bytes"
	"math"
	"math/rand"
	"slices"
	"testing"

	"crossgrain/api"
	"crossgrain/mem"
)

var going = api.Stop{}

// open: a memory with these rights in all of its pages.
func open(rights int) *mem.Memory {
	m := mem.New()
	for page := range api.Pages {
		m.Protect(page, rights)
	}
	return m
}

// watch: all pages are watched.
func watch(m *mem.Memory) *mem.Memory {
	for page := range api.Pages {
		m.Mark(page, true)
	}
	return m
}

func all(t *testing.T, m *mem.Memory) []byte {
	t.Helper()
	b, e := m.Peek(0, api.MemSize)
	if e != api.OK || len(b) != api.MemSize {
		t.Fatalf("Peek of all: %d bytes, %d", len(b), e)
	}
	return b
}

// tells: which pages are told, by Touched and by Changed, and that these are told once.
func tells(t *testing.T, what string, m *mem.Memory, want ...int) {
	t.Helper()
	if got := m.Touched(); got != (len(want) > 0) {
		t.Errorf("%s: Touched() = %v", what, got)
	}
	if got := m.Changed(); !slices.Equal(got, want) {
		t.Errorf("%s: Changed() = %v, want %v", what, got, want)
	}
	if m.Touched() || len(m.Changed()) != 0 {
		t.Errorf("%s: told twice", what)
	}
}

func TestNew(t *testing.T) {
	m := mem.New()
	if b := all(t, m); slices.Max(b) != 0 {
		t.Error("a new memory is not all 0")
	}
	for page := range api.Pages {
		if m.Rights(page) != 0 {
			t.Errorf("a new memory's page %d has rights", page)
		}
		m.Protect(page, 7)
		m.Store(uint32(page*api.PageSize), 1, 1)
	}
	tells(t, "no page is watched at first", m)
	if b := all(t, mem.New()); slices.Max(b) != 0 {
		t.Error("one memory hangs on another")
	}
}

// P2.1
func TestProtectAndRights(t *testing.T) {
	m := watch(mem.New())
	for page := range api.Pages {
		for rights := range 8 {
			had := m.Rights(page)
			if e := m.Protect(page, rights); e != api.OK || m.Rights(page) != rights {
				t.Fatalf("Protect(%d, %d) = %d, then Rights %d", page, rights, e, m.Rights(page))
			}
			if m.Touched() != (had != rights) {
				t.Errorf("page %d from %d to %d: Touched() = %v", page, had, rights, m.Touched())
			}
			m.Changed()
		}
	}
	m.Protect(9, 2)
	tells(t, "other rights", m, 9)
	m.Protect(9, 2)
	tells(t, "the rights that it had", m)
}

func TestProtectWrong(t *testing.T) {
	m := watch(mem.New())
	m.Protect(1, 5)
	m.Changed()
	for _, c := range []struct{ page, rights int }{
		{-1, 0}, {-1, 7}, {256, 0}, {256, 7}, {math.MinInt, 1}, {math.MaxInt, 1},
		{1, -1}, {1, 8}, {1, math.MinInt}, {1, math.MaxInt}, {0, 8}, {255, 8}, {-1, 8},
	} {
		if e := m.Protect(c.page, c.rights); e != api.ErrArg {
			t.Errorf("Protect(%d, %d) = %d", c.page, c.rights, e)
		}
	}
	tells(t, "what was refused", m)
	for page := range api.Pages {
		if want := map[int]int{1: 5}[page]; m.Rights(page) != want {
			t.Errorf("behind what was refused: Rights(%d) = %d", page, m.Rights(page))
		}
	}
	m = open(7)
	for _, page := range []int{-1, -256, 256, math.MinInt, math.MaxInt} {
		if r := m.Rights(page); r != 0 {
			t.Errorf("Rights(%d) = %d", page, r)
		}
	}
}

// P2.2
func TestPokeAndPeek(t *testing.T) {
	for _, c := range []struct {
		at, n int
		pages []int
	}{
		{0, 0, nil}, {3, 0, nil}, {256, 0, nil}, {65535, 0, nil}, {65536, 0, nil},
		{0, 1, []int{0}}, {255, 1, []int{0}}, {256, 1, []int{1}}, {65535, 1, []int{255}},
		{254, 2, []int{0}}, {255, 2, []int{0, 1}}, {256, 256, []int{1}}, {255, 258, []int{0, 1, 2}},
		{65530, 6, []int{255}}, {65279, 257, []int{254, 255}},
	} {
		m := watch(mem.New())
		b := make([]byte, c.n)
		for i := range b {
			b[i] = byte(i + 1)
		}
		if e := m.Poke(c.at, b); e != api.OK {
			t.Errorf("Poke(%d, %d bytes) = %d", c.at, c.n, e)
		}
		want := make([]byte, api.MemSize)
		copy(want[c.at:], b)
		if !bytes.Equal(all(t, m), want) {
			t.Errorf("Poke(%d, %d bytes): not these, or others too", c.at, c.n)
		}
		if got, e := m.Peek(c.at, c.n); e != api.OK || !bytes.Equal(got, b) {
			t.Errorf("Peek(%d, %d) = %v, %d", c.at, c.n, got, e)
		}
		tells(t, "Poke", m, c.pages...)
	}
	m := watch(mem.New())
	m.Poke(0, make([]byte, api.MemSize))
	if got := m.Changed(); len(got) != api.Pages || !slices.IsSorted(got) {
		t.Errorf("Poke of all: %v", got)
	}
}

func TestPokeAndPeekWrong(t *testing.T) {
	m := watch(mem.New())
	m.Poke(0, []byte{1, 2, 3})
	m.Poke(65533, []byte{4, 5, 6})
	m.Changed()
	before := all(t, m)
	for _, c := range []struct{ at, n int }{
		{-1, 0}, {-1, 1}, {-1, 2}, {65536, 1}, {65537, 0}, {65535, 2}, {65530, 7}, {0, 65537}, {1, 65536},
		{math.MaxInt, 0}, {math.MaxInt, 1}, {math.MaxInt, 8}, {math.MinInt, 0}, {math.MinInt, 1},
	} {
		if e := m.Poke(c.at, bytes.Repeat([]byte{9}, c.n)); e != api.ErrArg {
			t.Errorf("Poke(%d, %d bytes) = %d", c.at, c.n, e)
		}
		if b, e := m.Peek(c.at, c.n); e != api.ErrArg || len(b) != 0 {
			t.Errorf("Peek(%d, %d) = %d bytes, %d", c.at, c.n, len(b), e)
		}
	}
	for _, c := range []struct{ at, n int }{
		{0, -1}, {5, -1}, {5, -5}, {65536, -1}, {65537, -1}, {65540, -8}, {0, math.MinInt}, {65536, math.MinInt},
		{0, math.MaxInt}, {1, math.MaxInt}, {65536, math.MaxInt}, {math.MaxInt, math.MaxInt}, {math.MinInt, math.MinInt},
	} {
		if b, e := m.Peek(c.at, c.n); e != api.ErrArg || len(b) != 0 {
			t.Errorf("Peek(%d, %d) = %d bytes, %d", c.at, c.n, len(b), e)
		}
	}
	if !bytes.Equal(all(t, m), before) {
		t.Error("what was refused changed bytes")
	}
	tells(t, "what was refused", m)
}

func TestRightsAreNoMatterToPokeAndPeek(t *testing.T) {
	for rights := range 8 {
		m := open(rights)
		if e := m.Poke(300, []byte{7}); e != api.OK {
			t.Errorf("rights %d: Poke %d", rights, e)
		}
		if b, e := m.Peek(300, 1); e != api.OK || b[0] != 7 {
			t.Errorf("rights %d: Peek %v, %d", rights, b, e)
		}
	}
}

func TestNothingIsShared(t *testing.T) {
	m := open(7)
	b := []byte{1, 2, 3, 4}
	m.Poke(16, b)
	b[0] = 99
	peeked, _ := m.Peek(16, 4)
	fetched, _ := m.Fetch(16, 4)
	peeked[1], fetched[2] = 99, 99
	if got, _ := m.Peek(16, 4); !bytes.Equal(got, []byte{1, 2, 3, 4}) {
		t.Errorf("the memory shares its bytes: %v", got)
	}
	watch(m)
	m.Poke(600, b)
	pages := m.Changed()
	pages[0] = 77
	m.Poke(600, b)
	tells(t, "Changed hands out its own list", m, 2)
}

// P2.3
func TestNumbers(t *testing.T) {
	m := open(api.Read | api.Write)
	for _, a := range []uint32{0, 1, 252, 253, 254, 255, 256, 1000, 65532} {
		for _, n := range []int{1, 2, 4} {
			m.Poke(0, make([]byte, api.MemSize))
			v := uint32(0xf1e2d3c4)
			if s := m.Store(a, n, v); s != going {
				t.Errorf("Store(%x, %d): %v", a, n, s)
			}
			want := make([]byte, api.MemSize)
			copy(want[a:], []byte{0xc4, 0xd3, 0xe2, 0xf1}[:n])
			if !bytes.Equal(all(t, m), want) {
				t.Errorf("Store(%x, %d): not the lowest bytes first, or others too", a, n)
			}
			low := uint32(uint64(v) % (1 << (8 * n)))
			if got, s := m.Load(a, n); got != low || s != going {
				t.Errorf("Load(%x, %d) = %x, %v", a, n, got, s)
			}
		}
	}
	m.Store(252, 4, 0x01020304)
	if v, s := m.Load(254, 2); v != 0x0102 || s != going {
		t.Errorf("the two bytes above: %x, %v", v, s)
	}
}

func TestFetch(t *testing.T) {
	m := open(api.Run)
	m.Poke(250, []byte{1, 2, 3, 4, 5, 6, 7, 8})
	m.Poke(65528, []byte{11, 12, 13, 14, 15, 16, 17, 18})
	for n := range 9 {
		if b, s := m.Fetch(250, n); s != going || !bytes.Equal(b, []byte{1, 2, 3, 4, 5, 6, 7, 8}[:n]) {
			t.Errorf("Fetch(250, %d) = %v, %v", n, b, s)
		}
		if b, s := m.Fetch(uint32(65536-n), n); s != going || !bytes.Equal(b, []byte{11, 12, 13, 14, 15, 16, 17, 18}[8-n:]) {
			t.Errorf("Fetch of the last %d: %v, %v", n, b, s)
		}
	}
}

func TestLastBytes(t *testing.T) {
	m := open(7)
	for _, n := range []int{1, 2, 4} {
		for over := range 6 {
			a := uint32(65536 - n + over)
			want := api.Stop{Arg: max(a, 65536)}
			if over == 0 {
				want = going
			}
			stop := func(kind int) api.Stop {
				if want == going {
					return want
				}
				return api.Stop{Kind: kind, Arg: want.Arg}
			}
			if s := m.Store(a, n, 0); s != stop(api.StopStore) {
				t.Errorf("Store(%d, %d): %v", a, n, s)
			}
			if v, s := m.Load(a, n); v != 0 || s != stop(api.StopLoad) {
				t.Errorf("Load(%d, %d): %d, %v", a, n, v, s)
			}
			if b, s := m.Fetch(a, n); s != stop(api.StopFetch) || want != going && len(b) != 0 {
				t.Errorf("Fetch(%d, %d): %v, %v", a, n, b, s)
			}
		}
	}
	if b, s := m.Fetch(65530, 8); len(b) != 0 || s != (api.Stop{Kind: api.StopFetch, Arg: 65536}) {
		t.Errorf("Fetch(65530, 8): %v, %v", b, s)
	}
}

// The bytes wrap round behind ffffffff, so the first is the one that is told.
func TestWrapRound(t *testing.T) {
	m := open(7)
	for _, a := range []uint32{0xfffffffd, 0xfffffffe, 0xffffffff, 0x80000000, 0x10000} {
		for _, n := range []int{1, 2, 4} {
			if v, s := m.Load(a, n); v != 0 || s != (api.Stop{Kind: api.StopLoad, Arg: a}) {
				t.Errorf("Load(%x, %d): %x, %v", a, n, v, s)
			}
			if s := m.Store(a, n, 1); s != (api.Stop{Kind: api.StopStore, Arg: a}) {
				t.Errorf("Store(%x, %d): %v", a, n, s)
			}
			if b, s := m.Fetch(a, n); len(b) != 0 || s != (api.Stop{Kind: api.StopFetch, Arg: a}) {
				t.Errorf("Fetch(%x, %d): %v, %v", a, n, b, s)
			}
		}
	}
	if slices.Max(all(t, m)) != 0 {
		t.Error("a store that wraps round stored")
	}
}

// Each right alone counts, and the first byte without it is told.
func TestEachRight(t *testing.T) {
	for r0 := range 8 {
		for r1 := range 8 {
			m := watch(mem.New())
			m.Poke(252, []byte{1, 2, 3, 4, 5, 6, 7, 8})
			m.Protect(0, r0)
			m.Protect(1, r1)
			m.Changed()
			before := all(t, m)
			want := func(right, kind int) api.Stop {
				if r0&right == 0 {
					return api.Stop{Kind: kind, Arg: 254}
				}
				if r1&right == 0 {
					return api.Stop{Kind: kind, Arg: 256}
				}
				return going
			}
			v, s := m.Load(254, 4)
			if w := want(1, 5); s != w || w == going && v != 0x06050403 || w != going && v != 0 {
				t.Errorf("rights %d, %d: Load %x, %v", r0, r1, v, s)
			}
			b, s := m.Fetch(254, 4)
			if w := want(4, 4); s != w || w == going && !bytes.Equal(b, []byte{3, 4, 5, 6}) || w != going && len(b) != 0 {
				t.Errorf("rights %d, %d: Fetch %v, %v", r0, r1, b, s)
			}
			tells(t, "what only reads", m)
			s = m.Store(254, 4, 0xffffffff)
			if w := want(2, 6); s != w {
				t.Errorf("rights %d, %d: Store %v", r0, r1, s)
			}
			if s == going {
				tells(t, "Store into two pages", m, 0, 1)
			} else {
				tells(t, "a store that stopped", m)
				if !bytes.Equal(all(t, m), before) {
					t.Errorf("rights %d, %d: a store that stopped stored", r0, r1)
				}
			}
		}
	}
}

// Of another n Load's number is 0, but each of the n bytes is used: it stops as with 1, 2, 4.
func TestLoadOfOtherNumbersOfBytes(t *testing.T) {
	end := uint32(api.MemSize)
	for _, pages := range []int{0, 1, 2, 255, 256} {
		for _, right := range []int{api.Read, api.Read | api.Write, 7} {
			m := mem.New()
			m.Poke(0, bytes.Repeat([]byte{0xaa}, api.MemSize))
			for page := range pages {
				m.Protect(page, right)
			}
			for page := pages; page < api.Pages; page++ {
				m.Protect(page, 7-api.Read)
			}
			first := uint32(pages * api.PageSize) // the first byte that may not be read
			for _, a := range []uint32{0, 1, 253, 254, 255, 256, 257, end - 3, end - 2, end - 1, end, 0x80000000, 0xfffffffe, 0xffffffff} {
				for _, n := range []int{math.MinInt, -4, -1, 0, 3, 5, 6, 7, 8, 9, 255, 256, 257, 65535, 65536, 65537, 1 << 32, 1<<32 + 1, 1<<32 + 4, math.MaxInt} {
					want := api.Stop{Kind: api.StopLoad, Arg: max(a, first)}
					if n <= 0 || a < first && n <= int(first-a) {
						want = going
					}
					if v, s := m.Load(a, n); v != 0 || s != want {
						t.Errorf("%d pages: Load(%x, %d) = %x, %v, want %v", pages, a, n, v, s, want)
					}
				}
			}
		}
	}
}

func TestOtherNumbersOfBytes(t *testing.T) {
	for _, m := range []*mem.Memory{mem.New(), open(7)} {
		m.Poke(0, bytes.Repeat([]byte{0xaa}, api.MemSize))
		before := all(t, watch(m))
		for _, n := range []int{0, 3, 5, 6, 7, 8, 9, -1, -4, 65536, 1 << 32, 1<<32 + 4, math.MinInt, math.MaxInt} {
			for _, a := range []uint32{0, 255, 65535, 65536, 0xffffffff} {
				if s := m.Store(a, n, 1); s != going {
					t.Errorf("Store(%x, %d): %v", a, n, s)
				}
				if n >= 1 && n <= 8 {
					continue
				}
				if b, s := m.Fetch(a, n); len(b) != 0 || s != going {
					t.Errorf("Fetch(%x, %d) = %v, %v", a, n, b, s)
				}
			}
		}
		if !bytes.Equal(all(t, m), before) {
			t.Error("a store of another number of bytes stored")
		}
		tells(t, "a store of another number of bytes", m)
	}
}

// P2.4
func TestMarks(t *testing.T) {
	m := open(7)
	for _, page := range []int{-1, 256, math.MinInt, math.MaxInt} {
		for _, on := range []bool{true, false} {
			if e := m.Mark(page, on); e != api.ErrArg {
				t.Errorf("Mark(%d, %v) = %d", page, on, e)
			}
		}
	}
	for _, page := range []int{0, 255, 4, 2} {
		if e := m.Mark(page, true); e != api.OK {
			t.Errorf("Mark(%d, true) = %d", page, e)
		}
	}
	tells(t, "watched alone", m)
	m.Poke(3*256, make([]byte, 256))
	m.Store(5*256, 4, 0)
	m.Protect(1, 0)
	tells(t, "pages that are not watched", m)
	m.Poke(3, nil)
	tells(t, "no bytes", m)
	m.Poke(3, []byte{0})
	tells(t, "bytes that stay as they were", m, 0)
	m.Store(65532, 4, 0)
	m.Poke(4*256+255, []byte{0})
	m.Store(2*256, 1, 0)
	m.Store(2*256, 1, 0)
	m.Protect(0, 6)
	tells(t, "rising, each once", m, 0, 2, 4, 255)
	m.Store(2*256+1, 2, 0)
	tells(t, "it is watched still", m, 2)
}

func TestWatchedNoLonger(t *testing.T) {
	m := open(7)
	m.Poke(256, []byte{1})
	m.Mark(1, true)
	tells(t, "a change ahead of the mark", m)
	m.Poke(256, []byte{1})
	m.Mark(1, true)
	tells(t, "a mark again", m, 1)
	m.Poke(256, []byte{1})
	m.Mark(1, false)
	tells(t, "told, then watched no longer", m)
	m.Poke(256, []byte{1})
	m.Mark(1, true)
	tells(t, "changed while it was not watched", m)
	m.Mark(2, true)
	m.Poke(256, make([]byte, 512))
	m.Mark(1, false)
	m.Mark(1, false)
	m.Mark(1, true)
	m.Mark(256, false)
	tells(t, "the other one is told still", m, 2)
	m.Mark(1, false)
	m.Store(510, 4, 0)
	tells(t, "one of two", m, 2)
}

// slow does what the chapter says, a byte at a time, by maps.
type slow struct {
	bytes         map[uint32]byte
	rights        map[int]int
	watched, told map[int]bool
}

func (w *slow) change(page int) {
	if w.watched[page] {
		w.told[page] = true
	}
}

func (w *slow) bad(a uint32, n, right int) (uint32, bool) {
	for range n {
		if a > 65535 || w.rights[int(a)/256]/right%2 == 0 {
			return a, true
		}
		a++
	}
	return 0, false
}

func (w *slow) load(a uint32, n int) (uint32, api.Stop) {
	if bad, is := w.bad(a, n, 1); is {
		return 0, api.Stop{Kind: 5, Arg: bad}
	}
	v, by := uint32(0), uint32(1)
	if n != 1 && n != 2 && n != 4 {
		return 0, api.Stop{}
	}
	for i := range uint32(n) {
		v += uint32(w.bytes[a+i]) * by
		by *= 256
	}
	return v, api.Stop{}
}

func (w *slow) store(a uint32, n int, v uint32) api.Stop {
	if bad, is := w.bad(a, n, 2); is {
		return api.Stop{Kind: 6, Arg: bad}
	}
	for range n {
		w.bytes[a] = byte(v % 256)
		w.change(int(a) / 256)
		v /= 256
		a++
	}
	return api.Stop{}
}

func (w *slow) fetch(a uint32, n int) ([]byte, api.Stop) {
	if bad, is := w.bad(a, n, 4); is {
		return nil, api.Stop{Kind: 4, Arg: bad}
	}
	b := []byte{}
	for i := range uint32(n) {
		b = append(b, w.bytes[a+i])
	}
	return b, api.Stop{}
}

func (w *slow) changed() []int {
	pages := []int{}
	for page := range 256 {
		if w.told[page] {
			pages = append(pages, page)
		}
	}
	w.told = map[int]bool{}
	return pages
}

// Long runs of all calls, near the ends of pages, against what the chapter says.
func TestAgainstSlow(t *testing.T) {
	for seed := range int64(20) {
		r := rand.New(rand.NewSource(seed))
		m := mem.New()
		w := &slow{map[uint32]byte{}, map[int]int{}, map[int]bool{}, map[int]bool{}}
		pages := []int{0, 1, 2, 254, 255}
		for step := range 3000 {
			page := pages[r.Intn(len(pages))]
			a := uint32(page*256 + 256 - 9 + r.Intn(12))
			n := []int{1, 2, 4}[r.Intn(3)]
			v := r.Uint32()
			switch r.Intn(8) {
			case 0:
				rights := r.Intn(8) | r.Intn(8)
				m.Protect(page, rights)
				if w.rights[page] != rights {
					w.rights[page] = rights
					w.change(page)
				}
			case 1:
				on := v%3 > 0
				m.Mark(page, on)
				w.watched[page] = on
				w.told[page] = on && w.told[page]
			case 2:
				b := make([]byte, r.Intn(6))
				r.Read(b)
				e := m.Poke(int(a), b)
				if (e == api.OK) != (int(a)+len(b) <= 65536) {
					t.Fatalf("seed %d, step %d: Poke(%d, %d bytes) = %d", seed, step, a, len(b), e)
				}
				for i := range b {
					if e == api.OK {
						w.bytes[a+uint32(i)] = b[i]
						w.change((int(a) + i) / 256)
					}
				}
			case 3:
				if got, want := m.Changed(), w.changed(); !slices.Equal(got, want) {
					t.Fatalf("seed %d, step %d: Changed() = %v, want %v", seed, step, got, want)
				}
			case 4, 5:
				if got, want := m.Store(a, n, v), w.store(a, n, v); got != want {
					t.Fatalf("seed %d, step %d: Store(%x, %d) = %v, want %v", seed, step, a, n, got, want)
				}
			case 6:
				if v%4 == 0 {
					n = int(v/4%12) - 2
				}
				got, s := m.Load(a, n)
				if want, ws := w.load(a, n); got != want || s != ws {
					t.Fatalf("seed %d, step %d: Load(%x, %d) = %x, %v, want %x, %v", seed, step, a, n, got, s, want, ws)
				}
			case 7:
				got, s := m.Fetch(a, int(v%9))
				if want, ws := w.fetch(a, int(v%9)); !bytes.Equal(got, want) || s != ws {
					t.Fatalf("seed %d, step %d: Fetch(%x, %d) = %v, %v, want %v, %v", seed, step, a, v%9, got, s, want, ws)
				}
			}
			if slices.Contains(pagesOf(w.told), true) != m.Touched() || m.Rights(page) != w.rights[page] {
				t.Fatalf("seed %d, step %d: Touched() = %v, Rights(%d) = %d", seed, step, m.Touched(), page, m.Rights(page))
			}
		}
		for a, b := range all(t, m) {
			if b != w.bytes[uint32(a)] {
				t.Fatalf("seed %d: byte %x is %x, want %x", seed, a, b, w.bytes[uint32(a)])
			}
		}
	}
}

func pagesOf(told map[int]bool) []bool {
	is := []bool{}
	for page := range 256 {
		is = append(is, told[page])
	}
	return is
}
