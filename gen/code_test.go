package gen_test

import (
	"math"
	"math/rand"
	"slices"
	"testing"

	"crossgrain/api"
	"crossgrain/gen"
	"crossgrain/host"
	"crossgrain/interp"
	"crossgrain/ir"
	"crossgrain/mem"
)

// blockOf: operations as a block of some instructions and bytes.
func blockOf(ops ...api.Op) api.Block { return api.Block{PC: 0x40, Count: 3, Bytes: 7, Ops: ops} }

var example = api.Block{PC: 10, Count: 1, Ops: []api.Op{
	{Kind: api.OpConst, K: 5},
	{Kind: api.OpPut},
	{Kind: api.OpGoto, K: 12, N: 1},
}}

func TestExample(t *testing.T) {
	w, err := gen.Code(example, 3)
	if err != api.OK || len(w) != 7 {
		t.Fatalf("%x, %d", w, err)
	}
	register := w[2] >> 8 & 15
	want := []uint32{0x00010001, 10, 2 | register<<8, 5, 7 | register<<12, 0x0001000e, 12}
	if !slices.Equal(w, want) || register > 2 {
		t.Errorf("%x, want %x", w, want)
	}
	c, left := does(t, example, api.Context{1, 2, 3}, mem.New())
	if c != (api.Context{5, 2, 3}) || left != (api.Left{Kind: api.LeftOn, PC: 12, N: 1}) {
		t.Errorf("%v, %+v", c, left)
	}
}

// P8.1: which errors, and which of two.
func TestErrors(t *testing.T) {
	large := example
	large.Ops = append(make([]api.Op, api.MaxOps), api.Op{Kind: api.OpGoto})
	with := func(change func(b *api.Block)) api.Block {
		b := example
		b.Ops = slices.Clone(b.Ops)
		change(&b)
		return b
	}
	list := []struct {
		what string
		b    api.Block
		want api.Errno
	}{
		{"a block", example, api.OK},
		{"no operations", api.Block{}, api.ErrForm},
		{"one too many", large, api.ErrLarge},
		{"Count -1", with(func(b *api.Block) { b.Count = -1 }), api.ErrArg},
		{"Count 65", with(func(b *api.Block) { b.Count = api.MaxBlock + 1 }), api.ErrArg},
		{"the least Count", with(func(b *api.Block) { b.Count = math.MinInt }), api.ErrArg},
		{"the greatest Count", with(func(b *api.Block) { b.Count = math.MaxInt }), api.ErrArg},
		{"the least Bytes", with(func(b *api.Block) { b.Bytes = math.MinInt }), api.ErrArg},
		{"the greatest Bytes", with(func(b *api.Block) { b.Bytes = math.MaxInt }), api.ErrArg},
		{"Kind 0", with(func(b *api.Block) { b.Ops[0].Kind = 0 }), api.ErrOp},
		{"Kind 18", with(func(b *api.Block) { b.Ops[0].Kind = 18 }), api.ErrOp},
		{"the least Kind", with(func(b *api.Block) { b.Ops[0].Kind = math.MinInt }), api.ErrOp},
		{"the greatest Kind", with(func(b *api.Block) { b.Ops[0].Kind = math.MaxInt }), api.ErrOp},
		{"slot 12", with(func(b *api.Block) { b.Ops[1].W = api.Slots }), api.ErrOp},
		{"the least slot", with(func(b *api.Block) { b.Ops[1].W = math.MinInt }), api.ErrOp},
		{"C of put", with(func(b *api.Block) { b.Ops[1].C = math.MinInt }), api.ErrField},
		{"N above Count", with(func(b *api.Block) { b.Ops[2].N = 2 }), api.ErrField},
		{"the least N", with(func(b *api.Block) { b.Ops[2].N = math.MinInt }), api.ErrField},
		{"stop's B", with(func(b *api.Block) { b.Ops[2] = api.Op{Kind: api.OpStop, W: 1, B: -1} }), api.ErrField},
		{"a value behind", with(func(b *api.Block) { b.Ops[1].A = 1 }), api.ErrTemp},
		{"the least value", with(func(b *api.Block) { b.Ops[1].A = math.MinInt }), api.ErrTemp},
		{"the greatest value", with(func(b *api.Block) { b.Ops[1].A = math.MaxInt }), api.ErrTemp},
		{"goto and no end", with(func(b *api.Block) { b.Ops[1] = api.Op{Kind: api.OpGoto} }), api.ErrForm},
		{"no end", with(func(b *api.Block) { b.Ops = b.Ops[:2] }), api.ErrForm},
	}
	for _, x := range list {
		for _, regs := range []int{3, 4, 8, 15, 16, 2, 17, 1, 0, -1, -3, 19, 32, math.MinInt, math.MaxInt, 1<<32 + 3} {
			want := x.want
			if want == api.OK && (regs < 3 || regs > 16) {
				want = api.ErrArg
			}
			was := slices.Clone(x.b.Ops)
			w, err := gen.Code(x.b, regs)
			if err != want || (err != api.OK && w != nil) || (err == api.OK && len(w) != 7) {
				t.Errorf("P8.1 %s, %d registers: %x, %d, want %d", x.what, regs, w, err, want)
			}
			if !slices.Equal(was, x.b.Ops) {
				t.Errorf("P0 %s, %d registers: the operations are others now", x.what, regs)
			}
		}
	}
}

// The enter has Count and PC, up to their ends.
func TestEnter(t *testing.T) {
	for _, count := range []int{0, 1, 2, 63, api.MaxBlock} {
		for _, pc := range []uint32{0, 1, 0xffff, 0x10000, 0x80000000, 0xffffffff} {
			b := api.Block{PC: pc, Count: count, Bytes: 6 * api.MaxBlock, Ops: []api.Op{{Kind: api.OpGoto, K: ^pc, N: count}}}
			_, left := does(t, b, api.Context{}, mem.New())
			if left != (api.Left{Kind: api.LeftOn, PC: ^pc, N: count}) {
				t.Errorf("P8.2 Count %d, PC %x: %+v", count, pc, left)
			}
		}
	}
}

// What is answered is new: who writes into it changes no other answer.
func TestAnswersAreNew(t *testing.T) {
	w, _ := gen.Code(example, 3)
	was := slices.Clone(w)
	v, _ := gen.Code(example, 3)
	clear(v)
	u, _ := gen.Code(example, 3)
	if !slices.Equal(w, was) || !slices.Equal(u, was) {
		t.Errorf("P0 %x, %x, want %x", w, u, was)
	}
}

// ground: of these pages 1 may be read and written, 2 read, 3 written, 4 nothing; 5 may be both and is watched.
func ground() *mem.Memory {
	m := mem.New()
	bytes := make([]byte, 6*api.PageSize)
	for i := range bytes {
		bytes[i] = byte(i*7 + i/256)
	}
	m.Poke(0, bytes)
	for page, rights := range []int{0, 3, 1, 2, 0, 3} {
		m.Protect(page, rights)
	}
	m.Mark(5, true)
	return m
}

// puts: operations that put the last value into the slot 0, and leave the block.
func puts(ops ...api.Op) api.Block {
	return blockOf(append(ops, api.Op{Kind: api.OpPut, A: len(ops) - 1}, api.Op{Kind: api.OpGoto, K: 0x77, N: 2})...)
}

// P8.2 of every kind that gives a value, each W of it; what is right is told by hand here.
func TestEveryValue(t *testing.T) {
	c := api.Context{0x80000005, 0x123, 0xfffffff0, 3, 4, 5, 6, 7, 8, 9, 10, 11}
	get := func(slot int) api.Op { return api.Op{Kind: api.OpGet, W: slot} }
	a, b, o := c[0], c[1], c[2]
	try := func(what string, want uint32, ops ...api.Op) {
		t.Helper()
		d, left := does(t, puts(ops...), c, ground())
		e := c
		e[0] = want
		if d != e || left != (api.Left{Kind: api.LeftOn, PC: 0x77, N: 2}) {
			t.Errorf("P8.2 %s: %x, %+v, want %x", what, d, left, want)
		}
	}
	for _, k := range []uint32{0, 1, 0x80000000, 0xffffffff} {
		try("const", k, api.Op{Kind: api.OpConst, K: k})
	}
	for slot, v := range c {
		try("get", v, get(slot))
	}
	bins := []uint32{0x80000128, 0x7ffffee2, 1, 0x80000127, 0x80000126, 0x28, 0x10000000, 0xf0000000,
		0x2c, 0x800005af, 0x91, 0x80000005 / 0x123, 0x80000005 % 0x123, 0, 0, 1}
	for w, v := range bins {
		try("bin", v, get(0), get(1), api.Op{Kind: api.OpBin, W: w, A: 0, B: 1})
	}
	for w, v := range []uint32{0x7ffffffa, 0x7ffffffb, 5, 5, 5, 5, 0} {
		try("un", v, get(0), api.Op{Kind: api.OpUn, W: w})
	}
	try("sel", b, get(0), get(1), get(2), api.Op{Kind: api.OpSel, A: 0, B: 1, C: 2})
	try("sel of 0", o, api.Op{Kind: api.OpConst}, get(1), get(2), api.Op{Kind: api.OpSel, A: 0, B: 1, C: 2})
	for w := range 13 {
		try("flags", interp.Flags(w, a, b, o), get(0), get(1), get(2), api.Op{Kind: api.OpFlags, W: w, A: 0, B: 1, C: 2})
	}
	for w := range 16 {
		for f := range uint32(16) {
			want := uint32(0)
			if interp.Holds(w, f) {
				want = 1
			}
			try("cond", want, api.Op{Kind: api.OpConst, K: f}, api.Op{Kind: api.OpCond, W: w})
		}
	}
	p := ground()
	bytes, _ := p.Peek(0x1ff-3, 4)
	signed := int8(bytes[0])
	half := uint32(bytes[0]) | uint32(bytes[1])<<8
	whole := half | uint32(bytes[2])<<16 | uint32(bytes[3])<<24
	loads := []uint32{uint32(bytes[0]), uint32(int32(signed)), half, uint32(int32(int16(half))), whole}
	for w, v := range loads {
		try("load", v, api.Op{Kind: api.OpConst, K: 0x1fc}, api.Op{Kind: api.OpLoad, W: w, K: 1, N: 1})
	}
}

// now: of the slots as they are then, of every kind of flags and of what is none.
func TestNow(t *testing.T) {
	for _, k := range []uint32{0, 1, 2, 3, 4, 5, 6, 7, 8, 9, 10, 11, 12, 13, 14, 255, 0x7fffffff, 0x80000000, 0xffffffff} {
		c := api.Context{8: k, 9: 0x80000000, 10: 0x80000001, 11: 5}
		want := interp.Flags(int(k), 0x80000000, 0x80000001, 5)
		d, _ := does(t, puts(api.Op{Kind: api.OpNow}), c, ground())
		if d[0] != want {
			t.Errorf("P8.2 now of the kind %d: %d, want %d", k, d[0], want)
		}
		// One ahead of a put of each of the slots, one behind; both are asked for behind both.
		for slot := 8; slot <= 11; slot++ {
			b := blockOf(
				api.Op{Kind: api.OpNow},
				api.Op{Kind: api.OpConst, K: 3},
				api.Op{Kind: api.OpPut, W: slot, A: 1},
				api.Op{Kind: api.OpNow},
				api.Op{Kind: api.OpPut, W: 1, A: 0},
				api.Op{Kind: api.OpPut, W: 2, A: 3},
				api.Op{Kind: api.OpGoto, K: 1, N: 1},
			)
			e := c
			e[slot] = 3
			e[1] = want
			e[2] = interp.Flags(int(e[8]), e[9], e[10], e[11])
			if d, _ := does(t, b, c, ground()); d != e {
				t.Errorf("P8.2 now of the kind %d, put of the slot %d: %x, want %x", k, slot, d, e)
			}
		}
	}
}

// P8.2: each way in which a block is left, with its stop, N and K; and the context and the memory as they are there.
func TestEveryWayOut(t *testing.T) {
	const k = 0xfedcba98
	end := api.Op{Kind: api.OpGoto, K: 0x11, N: 3}
	one := func(o api.Op, last api.Op) api.Block {
		return blockOf(
			api.Op{Kind: api.OpGet, W: 1},
			api.Op{Kind: api.OpGet, W: 2},
			api.Op{Kind: api.OpPut, W: 3, A: 1},
			o,
			api.Op{Kind: api.OpPut, W: 4, A: 1},
			last,
		)
	}
	on := api.Left{Kind: api.LeftOn, PC: 0x11, N: 3}
	stop := func(kind int, arg uint32) api.Left {
		return api.Left{Kind: api.LeftStop, Stop: api.Stop{Kind: kind, Arg: arg}, PC: k, N: 2}
	}
	for w := range 5 {
		o := api.Op{Kind: api.OpLoad, W: w, K: k, N: 2}
		for at, want := range map[uint32]api.Left{0x100: on, 0x200: on, 0x300: stop(5, 0x300), 0x400: stop(5, 0x400), 0xffffffff: stop(5, 0xffffffff), 0x10000: stop(5, 0x10000)} {
			leaves(t, one(o, end), at, want)
		}
	}
	for w := range 3 {
		o := api.Op{Kind: api.OpStore, W: w, B: 1, K: k, N: 2}
		for at, want := range map[uint32]api.Left{0x100: on, 0x200: stop(6, 0x200), 0x300: on, 0x400: stop(6, 0x400), 0x500: on, 0xffffffff: stop(6, 0xffffffff)} {
			leaves(t, one(o, end), at, want)
		}
	}
	for _, a := range []uint32{0, 1, 0x80000000, 0xffffffff} {
		want := api.Left{Kind: api.LeftOn, PC: k, N: 2}
		if a == 0 {
			want = on
		}
		leaves(t, one(api.Op{Kind: api.OpIf, K: k, N: 2}, end), a, want)
		for kind := 1; kind <= 7; kind++ {
			want := stop(kind, 0)
			if a == 0 {
				want = on
			}
			leaves(t, one(api.Op{Kind: api.OpStopIf, W: kind, K: k, N: 2}, end), a, want)
			for _, arg := range []int{0, 1, 0x10000, 0x7fffffff, 0x80000000, math.MaxUint32} {
				last := api.Op{Kind: api.OpStop, W: kind, B: arg, K: k, N: 2}
				leaves(t, one(api.Op{Kind: api.OpWatch}, last), a, stop(kind, uint32(arg)))
			}
		}
		leaves(t, one(api.Op{Kind: api.OpWatch}, api.Op{Kind: api.OpGotoT, N: 2}), a, api.Left{Kind: api.LeftTo, PC: a, N: 2})
		leaves(t, one(api.Op{Kind: api.OpIf, K: k, N: 1}, api.Op{Kind: api.OpGotoT, N: 3}), a, map[bool]api.Left{
			true: {Kind: api.LeftTo, PC: 0, N: 3}, false: {Kind: api.LeftOn, PC: k, N: 1},
		}[a == 0])
	}
}

// leaves: such a block is left so, with the slot 1 as told; the slot 4 has been put only if that is at its end.
func leaves(t *testing.T, b api.Block, a uint32, want api.Left) {
	t.Helper()
	c := api.Context{1: a, 2: 0xa1b2c3d4, 4: 44, 8: 1}
	d, left := does(t, b, c, ground())
	if left != want {
		t.Errorf("P8.2 of %x: %+v, want %+v:%s", a, left, want, told(b.Ops))
	}
	c[3] = c[2]
	last := b.Ops[len(b.Ops)-1]
	if want.Kind == api.LeftTo || want.PC == last.K && want.N == last.N {
		c[4] = c[2]
	}
	if d != c {
		t.Errorf("P8.2 of %x: context %x, want %x:%s", a, d, c, told(b.Ops))
	}
}

// A store stores its B at its A, as many bytes as W says, and nothing else.
func TestStore(t *testing.T) {
	for w, n := range []int{1, 2, 4} {
		for _, order := range [][]int{{1, 2}, {2, 1}} {
			b := blockOf(
				api.Op{Kind: api.OpGet, W: order[0]},
				api.Op{Kind: api.OpGet, W: order[1]},
				api.Op{Kind: api.OpStore, W: w, A: order[0] - 1, B: order[1] - 1, K: 1, N: 1},
				api.Op{Kind: api.OpGoto, K: 2, N: 2},
			)
			for _, k := range codes(t, b) {
				m, want := ground(), ground()
				want.Poke(0x1f0, []byte{0xd4, 0xc3, 0xb2, 0xa1}[:n])
				_, left := host.Run(k.words, 0, api.Context{1: 0x1f0, 2: 0xa1b2c3d4}, m, 3, nil)
				if *m != *want || left.PC != 2 {
					t.Errorf("P8.2 store %d: %+v, or another memory", w, left)
				}
			}
		}
	}
}

// A watch leaves the block if its own store changed a watched page; not if another.
func TestWatch(t *testing.T) {
	b := blockOf(
		api.Op{Kind: api.OpGet},
		api.Op{Kind: api.OpWatch, K: 1, N: 1},
		api.Op{Kind: api.OpStore, W: 0, K: 2, N: 2},
		api.Op{Kind: api.OpPut, W: 1},
		api.Op{Kind: api.OpWatch, K: 3, N: 2},
		api.Op{Kind: api.OpPut, W: 2},
		api.Op{Kind: api.OpGoto, K: 4, N: 3},
	)
	d, left := does(t, b, api.Context{0x100}, ground())
	if d != (api.Context{0x100, 0x100, 0x100}) || left != (api.Left{Kind: api.LeftOn, PC: 4, N: 3}) {
		t.Errorf("P8.2 a page that is not watched: %x, %+v", d, left)
	}
	d, left = does(t, b, api.Context{0x5ff}, ground())
	if d != (api.Context{0x5ff, 0x5ff}) || left != (api.Left{Kind: api.LeftOn, PC: 3, N: 2}) {
		t.Errorf("P8.2 a page that is watched: %x, %+v", d, left)
	}
}

// P8.3, and what chapter 7 says of its enter: with a page that is told already, with too few left, without memory, by a table.
func TestRunOtherwise(t *testing.T) {
	touched := ground()
	touched.Poke(0x500, []byte{1})
	b := example
	b.Ops = slices.Clone(b.Ops)
	b.Ops[2] = api.Op{Kind: api.OpGotoT, A: 0, N: 1}
	for _, k := range codes(t, b) {
		c := api.Context{3: 9}
		d, left := host.Run(k.words, 0, c, touched, 1, nil)
		if d != c || left != (api.Left{Kind: api.LeftOn, PC: 10}) {
			t.Errorf("P8.3 a page is told: %v, %+v", d, left)
		}
		d, left = host.Run(k.words, 0, c, ground(), 0, nil)
		if d != c || left != (api.Left{Kind: api.LeftShort, PC: 10}) {
			t.Errorf("P8.3 none left: %v, %+v", d, left)
		}
		d, left = host.Run(k.words, 0, c, nil, 1, nil)
		left.At = 0
		if d != (api.Context{5, 3: 9}) || left != (api.Left{Kind: api.LeftTo, PC: 5, N: 1}) {
			t.Errorf("P8.3 no memory: %v, %+v", d, left)
		}
		_, left = host.Run(k.words, 0, c, ground(), 20, []api.Entry{{PC: 5, At: 0}})
		if left != (api.Left{Kind: api.LeftShort, PC: 10, N: 20}) {
			t.Errorf("P8.3 round by the table: %+v", left)
		}
	}
}

// A value that is got ahead of a put of its slot stays what it was; one behind is what was put.
func TestGetAndPut(t *testing.T) {
	for slot := range api.Slots {
		for other := range api.Slots {
			b := blockOf(
				api.Op{Kind: api.OpGet, W: slot},
				api.Op{Kind: api.OpConst, K: 0x1234},
				api.Op{Kind: api.OpPut, W: slot, A: 1},
				api.Op{Kind: api.OpGet, W: slot},
				api.Op{Kind: api.OpPut, W: other, A: 0},
				api.Op{Kind: api.OpBin, W: api.BXor, A: 0, B: 3},
				api.Op{Kind: api.OpGotoT, A: 5, N: 3},
			)
			c := api.Context{1, 2, 4, 8, 16, 32, 64, 128, 256, 512, 1024, 2048}
			want := c
			want[slot] = 0x1234
			want[other] = c[slot]
			d, left := does(t, b, c, ground())
			if d != want || left.PC != c[slot]^0x1234 {
				t.Errorf("P8.2 slots %d, %d: %x, %x, want %x", slot, other, d, left.PC, want)
			}
		}
	}
}

// Slots change their numbers round: each value is got ahead of all puts, and put behind others.
func TestSlotsChangeRound(t *testing.T) {
	for by := range api.Slots {
		var ops []api.Op
		var c, want api.Context
		for slot := range api.Slots {
			ops = append(ops, api.Op{Kind: api.OpGet, W: slot})
			c[slot] = uint32(100 + slot)
		}
		for slot := range api.Slots {
			ops = append(ops, api.Op{Kind: api.OpPut, W: (slot + by) % api.Slots, A: slot})
			want[(slot+by)%api.Slots] = c[slot]
		}
		ops = append(ops, api.Op{Kind: api.OpGoto})
		if d, _ := does(t, blockOf(ops...), c, ground()); d != want {
			t.Errorf("P8.2 by %d: %d, want %d", by, d, want)
		}
	}
}

// An operation may take one value twice, or three times; and a put may put what its own slot has.
func TestOneValueOften(t *testing.T) {
	for _, source := range []api.Op{{Kind: api.OpGet}, {Kind: api.OpConst, K: 0x104}, {Kind: api.OpNow}} {
		b := blockOf(
			source,
			api.Op{Kind: api.OpBin, W: api.BAdd, A: 0, B: 0},
			api.Op{Kind: api.OpSel, A: 1, B: 1, C: 1},
			api.Op{Kind: api.OpSel, A: 2, B: 0, C: 2},
			api.Op{Kind: api.OpSel, A: 0, B: 0, C: 3},
			api.Op{Kind: api.OpFlags, W: api.FSub, A: 4, B: 4, C: 4},
			api.Op{Kind: api.OpFlags, W: api.FAdd, A: 0, B: 4, C: 0},
			api.Op{Kind: api.OpPut, W: 0, A: 0},
			api.Op{Kind: api.OpPut, W: 1, A: 1},
			api.Op{Kind: api.OpPut, W: 2, A: 2},
			api.Op{Kind: api.OpPut, W: 3, A: 3},
			api.Op{Kind: api.OpPut, W: 4, A: 4},
			api.Op{Kind: api.OpPut, W: 5, A: 5},
			api.Op{Kind: api.OpPut, W: 6, A: 6},
			api.Op{Kind: api.OpStore, W: 2, A: 0, B: 0, K: 5, N: 1},
			api.Op{Kind: api.OpLoad, W: 4, A: 0, K: 6, N: 2},
			api.Op{Kind: api.OpPut, W: 7, A: 15},
			api.Op{Kind: api.OpGoto, K: 7, N: 3},
		)
		c := api.Context{0x104, 8: 0, 11: 0}
		d, left := does(t, b, c, ground())
		want := api.Context{0x104, 0x208, 0x208, 0x104, 0x104, api.FZ, 0, 0x104}
		at := api.Left{Kind: api.LeftOn, PC: 7, N: 3}
		if source.Kind == api.OpNow {
			want = api.Context{5: api.FZ, 6: api.FZ}
			at = api.Left{Kind: api.LeftStop, Stop: api.Stop{Kind: api.StopStore}, PC: 5, N: 1}
		}
		if d != want || left != at {
			t.Errorf("P8.2 %+v: %x, %+v, want %x, %+v", source, d, left, want, at)
		}
	}
}

// sums: n values of a kind, then their sum into the slot 0, from the first on or from the last on; and a gotot by the first.
func sums(n int, each func(i int) api.Op, back bool) api.Block {
	var ops []api.Op
	for i := range n {
		ops = append(ops, each(i))
	}
	sum := 0
	for i := 1; i < n; i++ {
		other := i
		if back {
			other = n - i
		}
		ops = append(ops, api.Op{Kind: api.OpBin, W: api.BAdd, A: sum, B: other})
		sum = len(ops) - 1
	}
	return blockOf(append(ops, api.Op{Kind: api.OpPut, A: sum}, api.Op{Kind: api.OpGotoT, A: 0, N: 3})...)
}

// More values are wanted at once than there are registers: all that a block has room for.
func TestManyValuesAtOnce(t *testing.T) {
	m := ground()
	v, _ := m.Load(0x100, 4)
	for _, n := range []int{2, 3, 4, 5, 15, 16, 17, 18, 40, 1023} {
		for _, back := range []bool{false, true} {
			b := sums(n, func(i int) api.Op { return api.Op{Kind: api.OpConst, K: uint32(i) * 3} }, back)
			d, left := does(t, b, api.Context{}, m)
			if want := uint32(n * (n - 1) / 2 * 3); d[0] != want || left != (api.Left{Kind: api.LeftTo, N: 3}) {
				t.Errorf("P8.2 %d consts: %d, want %d; %+v", n, d[0], want, left)
			}
			b = sums(n, func(i int) api.Op { return api.Op{Kind: api.OpGet, W: 1 + i%11} }, back)
			c := api.Context{}
			want := uint32(0)
			for i := range n {
				c[1+i%11] = uint32(0x1000 << (i % 11))
				want += 0x1000 << (i % 11)
			}
			if d, left := does(t, b, c, m); d[0] != want || left.PC != c[1] {
				t.Errorf("P8.2 %d gets: %x, want %x; %+v", n, d[0], want, left)
			}
			b = sums(n, func(i int) api.Op {
				if i == 0 {
					return api.Op{Kind: api.OpGet, W: 1}
				}
				return api.Op{Kind: api.OpLoad, W: 4, A: 0, K: 9, N: 1}
			}, back)
			want = 0x100 + v*uint32(n-1)
			if d, left := does(t, b, api.Context{1: 0x100}, m); d[0] != want || left.PC != 0x100 {
				t.Errorf("P8.2 %d loads: %x, want %x; %+v", n, d[0], want, left)
			}
		}
	}
}

// Values that registers have no room for are kept beside them; with room none is.
func TestSpills(t *testing.T) {
	loads := sums(8, func(i int) api.Op {
		if i == 0 {
			return api.Op{Kind: api.OpGet, W: 1}
		}
		return api.Op{Kind: api.OpLoad, A: 0}
	}, true)
	for n, k := range codes(t, loads) {
		if regs := n + 3; (k.spills == 0) != (regs >= 8) {
			t.Errorf("%d registers, 8 values: %d instructions move spills", regs, k.spills)
		}
	}
}

// What can be had again is not kept: consts, and slots up to their next put.
func TestHadAgain(t *testing.T) {
	twice := func(each func(i int) api.Op) api.Block {
		b := sums(20, each, true)
		n := len(b.Ops) - 1
		for i := range 20 {
			b.Ops[n] = api.Op{Kind: api.OpPut, W: 1, A: i}
			b.Ops = append(b.Ops, api.Op{Kind: api.OpGoto})
			n++
		}
		return b
	}
	now := api.Op{Kind: api.OpNow}
	list := []api.Block{
		twice(func(i int) api.Op { return api.Op{Kind: api.OpConst, K: uint32(i)} }),
		twice(func(i int) api.Op { return api.Op{Kind: api.OpGet, W: 2 + i%10} }),
		blockOf(
			api.Op{Kind: api.OpGet}, now, now, now,
			api.Op{Kind: api.OpFlags, A: 1, B: 2, C: 3},
			api.Op{Kind: api.OpPut, W: 1, A: 4},
			api.Op{Kind: api.OpPut, W: 0, A: 0},
			api.Op{Kind: api.OpGoto},
		),
	}
	for i, b := range list {
		for n, k := range codes(t, b) {
			if k.spills != 0 {
				t.Errorf("block %d, %d registers: %d instructions move spills", i, n+3, k.spills)
			}
		}
	}
	// A register has it till another value needs the register.
	b := blockOf(
		api.Op{Kind: api.OpConst, K: 5},
		api.Op{Kind: api.OpGet, W: 1},
		api.Op{Kind: api.OpPut, W: 2},
		api.Op{Kind: api.OpPut, W: 3, A: 1},
		api.Op{Kind: api.OpPut, W: 4},
		api.Op{Kind: api.OpPut, W: 5, A: 1},
		api.Op{Kind: api.OpGoto},
	)
	for n, k := range codes(t, b) {
		if k.count(api.HLi, api.HLi) != 1 || k.count(api.HLdc, api.HLdc) != 1 {
			t.Errorf("%d registers: %+v", n+3, k.list)
		}
	}
}

// Of four values in three registers the one is kept elsewhere that is asked for the farthest behind; once.
func TestFarthest(t *testing.T) {
	now := api.Op{Kind: api.OpNow}
	put := func(v int) api.Op { return api.Op{Kind: api.OpPut, A: v} }
	list := [][]api.Op{
		{now, now, now, now, put(0), put(1), put(3), put(2), put(0)},
		{now, now, now, put(0), now, put(0), put(1), put(4), put(2), put(0)},
		{now, now, now, now, put(1), put(2), put(3), put(0)},
		{now, now, now, now, put(0), put(1), put(2), put(3)},
	}
	for i, ops := range list {
		k := made(t, blockOf(append(ops, api.Op{Kind: api.OpGoto})...), 3)
		if k.count(api.HSts, api.HSts) != 1 || k.count(api.HLds, api.HLds) != 1 {
			t.Errorf("block %d: %+v", i, k.list)
		}
	}
}

// The spills up to the last one: values near the end of MaxOps operations, more than three at once.
func TestMostOperations(t *testing.T) {
	for _, first := range []api.Op{{Kind: api.OpConst, K: 7}, {Kind: api.OpWatch}, {Kind: api.OpNow}} {
		var ops []api.Op
		for len(ops) < api.MaxOps-10 {
			ops = append(ops, first)
		}
		n := len(ops)
		for i := range 5 {
			ops = append(ops, api.Op{Kind: api.OpNow})
			if i == 2 {
				ops = append(ops, api.Op{Kind: api.OpPut, W: 11, A: n})
			}
		}
		ops = append(ops,
			api.Op{Kind: api.OpSel, A: n, B: n + 4, C: n + 5},
			api.Op{Kind: api.OpFlags, W: api.FAdc, A: n + 2, B: n + 1, C: n + 6},
			api.Op{Kind: api.OpPut, W: 0, A: n + 7},
			api.Op{Kind: api.OpGotoT, A: n, N: 3},
		)
		b := blockOf(ops...)
		if len(ops) != api.MaxOps {
			t.Fatalf("the test's own block has %d operations", len(ops))
		}
		d, left := does(t, b, api.Context{11: 6}, ground())
		if d[0] != interp.Flags(api.FAdc, 6, 6, 6) || left != (api.Left{Kind: api.LeftTo, PC: 6, N: 3}) {
			t.Errorf("P8.2 %d, %+v", d[0], left)
		}
	}
	// Each of 2047 values is taken by the next two or three.
	ops := []api.Op{{Kind: api.OpGet}, {Kind: api.OpGet, W: 1}, {Kind: api.OpGet, W: 2}}
	for i := 3; i < api.MaxOps-1; i++ {
		ops = append(ops, api.Op{Kind: api.OpSel, A: i - 3, B: i - 2, C: i - 1})
	}
	ops = append(ops, api.Op{Kind: api.OpGotoT, A: len(ops) - 1})
	for _, c := range []api.Context{{}, {1, 2, 3}, {0, 2, 3}, {0, 0, 3}, {1, 0, 0}} {
		does(t, blockOf(ops...), c, ground())
	}
}

// The last spill is the one of MaxOps - 1's number, and none is beyond.
func TestValuesWantedAtTheEnd(t *testing.T) {
	r := rand.New(rand.NewSource(82))
	// Every value is wanted by an operation of the last quarter.
	var ops []api.Op
	for i := range 1500 {
		o := api.Op{Kind: api.OpNow}
		if i > 0 {
			o = api.Op{Kind: api.OpBin, W: r.Intn(16), A: r.Intn(i), B: i - 1}
		}
		ops = append(ops, o)
	}
	last := len(ops) - 1
	for i := last; len(ops) < api.MaxOps-1; i = max(0, i-3) {
		ops = append(ops, api.Op{Kind: api.OpFlags, W: r.Intn(13), A: max(0, i-2), B: max(0, i-1), C: i})
		last++
	}
	ops = append(ops, api.Op{Kind: api.OpGotoT, A: last})
	list := codes(t, blockOf(ops...))
	for range 20 {
		same(t, blockOf(ops...), list, chanceContext(r), chanceMemory(r))
	}
}

// Nobody asks for these values: nothing is laid for them, but a load's stop counts.
func TestNobodyAsks(t *testing.T) {
	b := blockOf(
		api.Op{Kind: api.OpConst, K: 9},
		api.Op{Kind: api.OpGet, W: 1},
		api.Op{Kind: api.OpBin, A: 0, B: 1},
		api.Op{Kind: api.OpUn, A: 2},
		api.Op{Kind: api.OpSel, A: 3, B: 2, C: 1},
		api.Op{Kind: api.OpNow},
		api.Op{Kind: api.OpFlags, A: 5, B: 5, C: 5},
		api.Op{Kind: api.OpCond, A: 6},
		api.Op{Kind: api.OpGoto, K: 8, N: 1},
	)
	for n, k := range codes(t, b) {
		if len(k.list) != 2 {
			t.Errorf("%d registers: %+v", n+3, k.list)
		}
	}
	b = blockOf(
		api.Op{Kind: api.OpGet, W: 1},
		api.Op{Kind: api.OpLoad, W: 1, K: 5, N: 1},
		api.Op{Kind: api.OpGoto, K: 8, N: 2},
	)
	if _, left := does(t, b, api.Context{1: 0x1ff}, ground()); left != (api.Left{Kind: api.LeftOn, PC: 8, N: 2}) {
		t.Errorf("P8.2 a load that nobody asks for: %+v", left)
	}
	stop := api.Left{Kind: api.LeftStop, Stop: api.Stop{Kind: api.StopLoad, Arg: 0x3ff}, PC: 5, N: 1}
	if _, left := does(t, b, api.Context{1: 0x3ff}, ground()); left != stop {
		t.Errorf("P8.2 a load that nobody asks for: %+v, want %+v", left, stop)
	}
}

// A load that nobody asks for takes no register from values that are wanted still; its own address may be one of them.
func TestLoadBetween(t *testing.T) {
	b := blockOf(
		api.Op{Kind: api.OpNow},
		api.Op{Kind: api.OpCond, W: 1, A: 0},
		api.Op{Kind: api.OpUn, W: api.UNot, A: 0},
		api.Op{Kind: api.OpUn, W: api.UNeg, A: 0},
		api.Op{Kind: api.OpConst, K: 0x100},
		api.Op{Kind: api.OpBin, W: api.BAdd, A: 0, B: 4},
		api.Op{Kind: api.OpLoad, A: 5, K: 1, N: 1},
		api.Op{Kind: api.OpLoad, W: 0, A: 5, K: 2, N: 1},
		api.Op{Kind: api.OpPut, W: 0, A: 0},
		api.Op{Kind: api.OpPut, W: 1, A: 1},
		api.Op{Kind: api.OpPut, W: 2, A: 2},
		api.Op{Kind: api.OpPut, W: 3, A: 3},
		api.Op{Kind: api.OpPut, W: 4, A: 5},
		api.Op{Kind: api.OpPut, W: 5, A: 7},
		api.Op{Kind: api.OpGoto},
	)
	m := ground()
	v, _ := m.Load(0x106, 1)
	d, _ := does(t, b, api.Context{11: 6}, m)
	if want := (api.Context{6, 1, ^uint32(6), ^uint32(5), 0x106, v, 11: 6}); d != want {
		t.Errorf("P8.2 %x, want %x", d, want)
	}
}

// Values that only the last operation takes, or only those behind the last that does something to the guest.
func TestWantedAtTheEndAlone(t *testing.T) {
	m := ground()
	v, _ := m.Load(0x104, 4)
	b := blockOf(
		api.Op{Kind: api.OpGet, W: 1},
		api.Op{Kind: api.OpLoad, W: 4, A: 0, K: 1, N: 1},
		api.Op{Kind: api.OpConst, K: 0x108},
		api.Op{Kind: api.OpStore, W: 2, A: 2, B: 2, K: 2, N: 1},
		api.Op{Kind: api.OpPut, W: 1, A: 2},
		api.Op{Kind: api.OpWatch, K: 3, N: 1},
		api.Op{Kind: api.OpBin, W: api.BSub, A: 1, B: 0},
		api.Op{Kind: api.OpBin, W: api.BMul, A: 6, B: 2},
		api.Op{Kind: api.OpGotoT, A: 7, N: 3},
	)
	d, left := does(t, b, api.Context{1: 0x104}, m)
	if want := (api.Left{Kind: api.LeftTo, PC: (v - 0x104) * 0x108, N: 3}); left != want || d != (api.Context{1: 0x108}) {
		t.Errorf("P8.2 %x, %+v, want %+v", d, left, want)
	}
	for _, o := range []api.Op{{Kind: api.OpConst, K: 0x99}, {Kind: api.OpGet, W: 2}, {Kind: api.OpNow}} {
		_, left := does(t, blockOf(o, api.Op{Kind: api.OpGotoT, N: 1}), api.Context{2: 0x99, 11: 9}, m)
		want := api.Left{Kind: api.LeftTo, PC: 0x99, N: 1}
		if o.Kind == api.OpNow {
			want.PC = 9
		}
		if left != want {
			t.Errorf("P8.2 %+v: %+v, want %+v", o, left, want)
		}
	}
}

// A block that ir.Check refuses has no code, but one that it lets through has.
func TestCodeWhereThereIsABlock(t *testing.T) {
	r := rand.New(rand.NewSource(83))
	any := []int{0, 0, 0, 1, 2, 3, 4, 7, 11, 12, 15, 16, 17, 18, 63, 64, 65, 384, 385, -1, math.MinInt, math.MaxInt, math.MaxUint32}
	pick := func() int { return any[r.Intn(len(any))] }
	var seen [10]int
	for range 300000 {
		b := api.Block{PC: r.Uint32(), Count: r.Intn(3)}
		if r.Intn(4) == 0 {
			b.Count, b.Bytes = pick(), pick()
		}
		for i := range r.Intn(5) {
			o := api.Op{Kind: 1 + r.Intn(17)}
			for _, f := range []*int{&o.W, &o.A, &o.B, &o.C, &o.N} {
				if r.Intn(4) == 0 {
					*f = r.Intn(max(1, i+1))
				}
				if r.Intn(12) == 0 {
					*f = pick()
				}
			}
			b.Ops = append(b.Ops, o)
		}
		if r.Intn(2) == 0 {
			b.Ops = append(b.Ops, api.Op{Kind: api.OpGoto})
		}
		regs := 3 + r.Intn(14)
		want, _ := ir.Check(b)
		if r.Intn(8) == 0 {
			regs = pick()
			if want == api.OK && (regs < 3 || regs > 16) {
				want = api.ErrArg
			}
		}
		seen[want]++
		if want == api.OK {
			made(t, b, regs)
		} else if w, err := gen.Code(b, regs); w != nil || err != want {
			t.Fatalf("P8.1 %x, %d, want %d, with %d registers:%s", w, err, want, regs, told(b.Ops))
		}
	}
	for _, err := range []api.Errno{api.OK, api.ErrOp, api.ErrField, api.ErrArg, api.ErrTemp, api.ErrForm} {
		if seen[err] < 500 {
			t.Errorf("only %d have the error %d: this test tells little", seen[err], err)
		}
	}
}
