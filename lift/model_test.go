package lift_test

import (
	"testing"

	"crossgrain/api"
	"crossgrain/guest"
	"crossgrain/interp"
	"crossgrain/ir"
	"crossgrain/lift"
	"crossgrain/mem"
)

// Pages of the memory that most tests use: what each may be used for.
const (
	codePage  = 1 // all; the page behind it too
	dataPage  = 3 // read, write; the page behind it too
	readPage  = 5 // read
	writePage = 6 // write
	nonePage  = 7
	runPage   = 9   // run
	lastPage  = 255 // all
)

const (
	codeAt  = codePage * api.PageSize
	dataAt  = dataPage * api.PageSize
	readAt  = readPage * api.PageSize
	writeAt = writePage * api.PageSize
	noneAt  = nonePage * api.PageSize
	runAt   = runPage * api.PageSize
	lastAt  = lastPage * api.PageSize
)

const every = api.Read | api.Write | api.Run

// ground: a memory with these rights. Numbers lie in its data, no page is watched.
var ground = func() *mem.Memory {
	m := mem.New()
	for i := dataAt; i < noneAt; i += 4 {
		m.Poke(i, []byte{byte(i), byte(0x80 ^ i/2), byte(i / 3), byte(0x70 + i)})
	}
	for page, rights := range map[int]int{
		codePage: every, codePage + 1: every,
		dataPage: api.Read | api.Write, dataPage + 1: api.Read | api.Write,
		readPage: api.Read, writePage: api.Write, runPage: api.Run, lastPage: every,
	} {
		m.Protect(page, rights)
	}
	return m
}()

// copied: another memory, the same in all.
func copied(m *mem.Memory) *mem.Memory {
	w := *m
	return &w
}

// laid: the ground with code at a place.
func laid(at int, code []byte) *mem.Memory {
	m := copied(ground)
	m.Poke(at, code)
	return m
}

// bytesOf: instructions, one behind the other.
func bytesOf(t *testing.T, xs ...api.Ins) []byte {
	t.Helper()
	var b []byte
	for _, x := range xs {
		one, err := guest.Encode(x)
		if err != api.OK {
			t.Fatalf("%+v has no bytes", x)
		}
		b = append(b, one...)
	}
	return b
}

// slowFetch: the instruction at a place, byte for byte, as chapter 3 fetches it.
func slowFetch(m *mem.Memory, pc uint32) (api.Ins, int, api.Stop) {
	var b []byte
	for size := 1; len(b) < size; {
		at := pc + uint32(len(b))
		one, err := m.Peek(int(at), 1)
		if err != api.OK || m.Rights(int(at)/api.PageSize)&api.Run == 0 {
			return api.Ins{}, 0, api.Stop{Kind: api.StopFetch, Arg: at}
		}
		b = append(b, one[0])
		size = guest.Size(b[0])
	}
	x, n, err := guest.Decode(b)
	if err != api.OK {
		return api.Ins{}, 0, api.Stop{Kind: api.StopOp}
	}
	return x, n, api.Stop{}
}

// slowShape: how many instructions and bytes a block has.
func slowShape(m *mem.Memory, pc uint32, most int) (int, int) {
	if most < 1 {
		most = 1
	}
	if most > 64 {
		most = 64
	}
	count, n := 0, 0
	for count < most {
		x, size, stop := slowFetch(m, pc+uint32(n))
		if stop.Kind != api.Going {
			break
		}
		count, n = count+1, n+size
		if (x.Op == 1 || x.Op == 2) || (x.Op >= 5 && x.Op <= 13) {
			break
		}
	}
	return count, n
}

func stores(op int) bool {
	switch op {
	case api.Store, api.Xchg, api.Xadd, api.Cas, api.Push, api.Pushf:
		return true
	}
	return false
}

// slowLeft: how so many instructions are left, by steps of chapter 3; memory is
// changed by them.
func slowLeft(m *mem.Memory, s api.State, count int) (api.State, api.Exit) {
	s.F %= 16
	for done := 0; done < count || count == 0; done++ {
		x, _, _ := slowFetch(m, s.PC)
		u, stop := interp.Step(m, s)
		if stop.Kind == api.StopSys {
			return u, api.Exit{Stop: stop, PC: u.PC, N: done + 1}
		}
		if stop.Kind != api.Going {
			return s, api.Exit{Stop: stop, PC: s.PC, N: done}
		}
		s = u
		if stores(x.Op) && m.Touched() {
			return s, api.Exit{PC: s.PC, N: done + 1}
		}
	}
	return s, api.Exit{PC: s.PC, N: count}
}

// watchBytes: the pages of a block's bytes are watched.
func watchBytes(m *mem.Memory, b api.Block) {
	for i := range b.Bytes {
		m.Mark((int(b.PC)+i)/api.PageSize, true)
	}
}

// lifts: a block as P5.1 and P5.2 ask for it.
func lifts(t *testing.T, what string, m *mem.Memory, pc uint32, most int) api.Block {
	t.Helper()
	was := copied(m)
	b := lift.Block(m, pc, most)
	if *m != *was {
		t.Errorf("P5.2 %s: memory is changed", what)
	}
	count, n := slowShape(m, pc, most)
	if b.PC != pc || b.Count != count || b.Bytes != n {
		t.Errorf("P5.1 %s: a block at %x with Count %d, Bytes %d, want one at %x with %d, %d", what, b.PC, b.Count, b.Bytes, pc, count, n)
	}
	if err, at := ir.Check(b); err != api.OK {
		t.Fatalf("P5.2 %s: Check is %d, %d", what, err, at)
	}
	return b
}

// agrees: a block of the memory m does what steps do, and is left where it must
// be: what it answers. It is done with copies: m stays as it is.
func agrees(t *testing.T, what string, m *mem.Memory, pc uint32, most int, c api.Context) (api.Context, api.Exit) {
	t.Helper()
	m = copied(m)
	b := lifts(t, what, m, pc, most)
	watchBytes(m, b)
	w := copied(m)
	d, x, _ := ir.Eval(b, c, m)
	s, want := slowLeft(w, ir.State(c, pc), b.Count)
	if x != want {
		t.Fatalf("P5.4 %s: left by %+v, want %+v (of %x)", what, x, want, c)
	}
	if got := ir.State(d, x.PC); got != s {
		t.Fatalf("P5.3 %s:\nof   %x\nthe state is %x\nwant         %x", what, c, got, s)
	}
	if *m != *w {
		t.Fatalf("P5.3 %s: memory is other than by steps (of %x)", what, c)
	}
	return d, x
}
