package cache_test

import (
	"math/rand"
	"slices"
	"testing"

	"crossgrain/api"
	"crossgrain/cache"
	"crossgrain/gen"
	"crossgrain/host"
	"crossgrain/lift"
	"crossgrain/mem"
)

// places: small ones, which are numbers of words too, and some that are far.
func places() []uint32 {
	return []uint32{0, 1, 2, 3, 4, 5, 6, 7, 8, 9, 10, 12, 16, 20, 65535, 65536, 65541, 0x80000000, 0xfffffffe, 0xffffffff}
}

// chance is calls that are drawn, of a cache and its account.
type chance struct {
	*both
	r     *rand.Rand
	count map[api.Errno]int // how often Insert and Link answered each
	drops int
	steps int // guest instructions that were run
}

func (c *chance) place() uint32 {
	list := places()
	return list[c.r.Intn(len(list))]
}

// number: one that may look like an instruction, like a word's number or like a place.
func (c *chance) number() uint32 {
	switch c.r.Intn(4) {
	case 0:
		return lay(chain(c.r.Intn(3), 0))[0]
	case 1:
		return lay(leave(c.r.Intn(3), 0))[0]
	case 2:
		return lay(ifon(c.r.Intn(16), 1, 0))[0]
	}
	return c.place()
}

// block: of a place, whose registers are written ahead of being read.
func (c *chance) block(pc uint32) []api.Code {
	list := []api.Code{enter(c.r.Intn(3), pc), ldc(1, c.r.Intn(3))}
	for range c.r.Intn(7) {
		n := 1 + c.r.Intn(2)
		list = append(list, []api.Code{
			ifs(1, n, c.place()), ifs(1, n, c.place()), li(c.r.Intn(16), c.number()), ldc(1, c.r.Intn(3)), stc(1, c.r.Intn(3)),
			watch(n, c.number()), leave(n, c.place()), mov(c.r.Intn(16), 1),
		}[c.r.Intn(8)])
	}
	return append(list, []api.Code{leave(1, c.place()), leavet(1, 1), stop(3, 1, c.number(), c.number()), leave(2, pc)}[c.r.Intn(4)])
}

func (c *chance) pages() []int {
	var list []int
	for range c.r.Intn(4) {
		list = append(list, []int{0, 1, 2, 63, 64, 255}[c.r.Intn(6)])
	}
	if c.r.Intn(20) == 0 {
		list = append(list, []int{-1, 256}[c.r.Intn(2)])
	}
	return list
}

// spoil: code that is no block's at pc any more.
func (c *chance) spoil(pc uint32, list []api.Code) []uint32 {
	i := 1 + c.r.Intn(len(list))
	put := func(x api.Code) []uint32 { return lay(slices.Insert(slices.Clone(list), i, x)...) }
	switch c.r.Intn(7) {
	case 0:
		return put(chain(1, c.place()))
	case 1:
		return put(ifon(1, 1, c.place()))
	case 2:
		return put(enter(1, pc))
	case 3:
		return lay(list[1:]...)
	case 4:
		return lay(append([]api.Code{enter(1, pc+1)}, list[1:]...)...)
	case 5:
		return append(lay(list...), lay(li(0, 0))[0])
	}
	return slices.Concat(lay(list[:i]...), []uint32{0}, lay(list[i:]...))
}

// mine: the first word of an instruction that may be linked, mostly; or any word.
func (c *chance) mine() int {
	if c.r.Intn(4) > 0 && len(c.a.laid) > 0 {
		l := c.a.laid[c.r.Intn(len(c.a.laid))]
		return l.begin + len(lay(l.list[:c.r.Intn(len(l.list))]...))
	}
	return c.r.Intn(c.a.room+4) - 2
}

func (c *chance) call() {
	c.t.Helper()
	switch k := c.r.Intn(20); {
	case k < 6:
		pc := c.place()
		list := c.block(pc)
		code, bad := lay(list...), c.r.Intn(8) == 0
		if bad {
			code = c.spoil(pc, list)
		}
		_, err := c.insertWords(pc, c.pages(), list, code, bad)
		c.count[err]++
	case k < 14:
		c.count[c.link(c.mine())]++
	case k < 16:
		c.note(c.place())
	case k < 17:
		c.drops += c.drop([]int{0, 1, 2, 63, 64, 255, -1, 256, 3}[c.r.Intn(9)])
	case k < 19:
		at := c.mine()
		if list := c.a.places(); len(list) > 0 && c.r.Intn(4) > 0 {
			at = c.a.find(list[c.r.Intn(len(list))]).begin
		}
		_, l := c.run(at, api.Context{uint32(c.r.Intn(2)), c.place(), c.place()}, mem.New(), c.r.Intn(40))
		c.steps += l.N
	case c.r.Intn(6) == 0:
		c.flush()
	}
}

func TestByChance(t *testing.T) {
	r := rand.New(rand.NewSource(9))
	count, drops, steps := map[api.Errno]int{}, 0, 0
	for range 1500 {
		room := []int{8, 15, 16, 30, 60, 100, 200, 400}[r.Intn(8)]
		c := chance{both: open(t, room, []int{1, 2, 3, 4, 7, 64}[r.Intn(6)]), r: r, count: count}
		for range 80 {
			c.call()
		}
		drops += c.drops
		steps += c.steps
	}
	for _, err := range []api.Errno{api.OK, api.ErrArg, api.ErrForm, api.ErrHas, api.ErrLarge, api.ErrNone} {
		if count[err] < 500 {
			t.Errorf("the error %d came %d times only", err, count[err])
		}
	}
	if drops < 1000 || steps < 10000 {
		t.Errorf("%d blocks were dropped, %d instructions were run", drops, steps)
	}
}

// isBlock: is code that of a block at pc, and which of its words may be linked?
func isBlock(pc uint32, code []uint32) (bool, map[int]uint32) {
	ops, ends := map[int]int{}, map[int]uint32{}
	at := 0
	for at < len(code) {
		x, n, err := host.Decode(code, at)
		if err != api.OK || (at == 0 && (x.Op != api.HEnter || x.K != pc)) {
			return false, nil
		}
		if x.Op == api.HLeave || x.Op == api.HIf {
			ends[at] = x.K
		}
		ops[x.Op]++
		at += n
	}
	return ops[api.HEnter] == 1 && ops[api.HChain]+ops[api.HIfOn] == 0, ends
}

// Words by chance, as code: what is let through is a block's, and of that only leaves and ifs are linked.
func TestWordsByChance(t *testing.T) {
	r := rand.New(rand.NewSource(10))
	good, linked, m := 0, 0, mem.New()
	for range 40000 {
		c, _ := cache.New(40, 3)
		pc := uint32(r.Intn(3))
		code := lay(enter(r.Intn(65), pc))
		for range r.Intn(6) {
			op := []int{r.Intn(128), api.HEnter, api.HIf, api.HLeave, api.HChain, api.HIfOn, api.HStop, api.HLi, api.HLi}[r.Intn(9)]
			code = append(code, uint32(op)|r.Uint32()&0x0100*uint32(r.Intn(2))|uint32(r.Intn(3))<<16, []uint32{0, 1, 2, 3, 14, 15}[r.Intn(6)])
		}
		code = code[:len(code)-r.Intn(2)]
		is, ends := isBlock(pc, code)
		want := api.ErrForm
		if is {
			want = api.OK
			good++
		}
		if at, err := c.Insert(pc, []int{r.Intn(256)}, code); at != 0 || err != want {
			t.Fatalf("P9.1 Insert(%d, %x) = %d, %d, want %d", pc, code, at, err, want)
		}
		for word := -1; word < 14; word++ {
			want := api.ErrArg
			if to, ok := ends[word]; is && ok {
				want = api.ErrNone
				if to == pc {
					want = api.OK
					linked++
				}
			}
			if err := c.Link(word); err != want {
				t.Fatalf("P9.3 Link(%d) of %x at %d: %d, want %d", word, code, pc, err, want)
			}
			c.Run(word, api.Context{}, m, 3)
		}
	}
	if good < 1000 || linked < 100 {
		t.Errorf("%d were blocks, %d were linked", good, linked)
	}
}

// The code of a guest's loop, as packages lift and gen make it: linked it runs without being left.
func TestGuestLoop(t *testing.T) {
	m := mem.New()
	m.Poke(0x40, []byte{0x50, 0x15, 0xfd, 0x05, 3}) // dec R0; back to it, unless R0 is 0; sys 3
	m.Protect(0, api.Run)
	c, _ := cache.New(1000, 4)
	for _, pc := range []uint32{0x40, 0x43} {
		b := lift.Block(m, pc, api.MaxBlock)
		code, _ := gen.Code(b, 4)
		if _, err := c.Insert(pc, []int{0}, code); err != api.OK {
			t.Fatalf("P9.1 the block at %x: %d", pc, err)
		}
	}
	at, _ := c.Find(0x40)
	x := api.Context{100}
	for left := 0; ; left++ {
		y, l := c.Run(at, x, m, 1000)
		if l.Kind == api.LeftStop {
			if left != 2 || y[0] != 0 || l.Stop != (api.Stop{Kind: api.StopSys, Arg: 3}) {
				t.Errorf("it was left %d times: %v, %+v", left, y, l)
			}
			break
		}
		if err := c.Link(l.At); l.Kind != api.LeftOn || err != api.OK {
			t.Fatalf("P9.3 %+v, Link: %d", l, err)
		}
		x = y
		at, _ = c.Find(l.PC)
	}
	at, _ = c.Find(0x40)
	if y, l := c.Run(at, api.Context{100}, m, 1000); y[0] != 0 || l.Kind != api.LeftStop || l.N != 201 {
		t.Errorf("linked: %v, %+v", y, l)
	}
}
