package opt_test

import (
	"math"
	"slices"
	"testing"

	"crossgrain/api"
	"crossgrain/ir"
	"crossgrain/opt"
)

// asItIs: a block that is refused by an error is answered as it is.
func asItIs(t *testing.T, b api.Block, want api.Errno) {
	t.Helper()
	if err, _ := ir.Check(b); err != want {
		t.Fatalf("the test's own block has the error %d, want %d:%s", err, want, told(b.Ops))
	}
	was := slices.Clone(b.Ops)
	o := opt.Block(b)
	if o.PC != b.PC || o.Count != b.Count || o.Bytes != b.Bytes || !slices.Equal(o.Ops, was) || !slices.Equal(b.Ops, was) {
		t.Errorf("P6.1 what is refused is answered as another: PC %d, Count %d, Bytes %d:%s%s", o.PC, o.Count, o.Bytes, told(was), told(o.Ops))
	}
	isNew(t, b, o)
}

// isNew: the answer's operations are nobody else's.
func isNew(t *testing.T, b, o api.Block) {
	t.Helper()
	was := slices.Clone(b.Ops)
	for i := range o.Ops {
		o.Ops[i].Kind += 100
	}
	if !slices.Equal(was, b.Ops) {
		t.Errorf("P0 the answer shares its operations with what was handed in:%s", told(was))
	}
}

// unclean are operations in which the rules would find much to do.
var unclean = []api.Op{k(2), k(3), bin(0, 0, 1), put(0, 2), put(0, 0), now, now, get(0), get(0), leaveIf(0)}

// with: an operation behind the unclean ones, and an end.
func with(o api.Op) api.Block { return blockOf(append(slices.Clone(unclean), o, end)...) }

// P6.1: what is refused, for each of Check's reasons.
func TestRefused(t *testing.T) {
	asItIs(t, api.Block{}, api.ErrForm)
	asItIs(t, api.Block{PC: 7, Count: 64, Bytes: 384, Ops: []api.Op{}}, api.ErrForm)
	asItIs(t, api.Block{PC: 3, Count: 2, Ops: list(k(1), k(1))}, api.ErrForm)
	asItIs(t, blockOf(unclean...), api.ErrForm)
	asItIs(t, with(end), api.ErrForm)
	asItIs(t, with(gotoT(0)), api.ErrForm)
	asItIs(t, with(stop(1, 0)), api.ErrForm)

	asItIs(t, blockOf(append(make([]api.Op, api.MaxOps), end)...), api.ErrLarge)
	asItIs(t, blockOf(append(slices.Repeat(list(k(1)), api.MaxOps), end)...), api.ErrLarge)
	for _, n := range []int{-1, 65, math.MaxInt, math.MinInt} {
		asItIs(t, api.Block{Count: n, Ops: list(k(1), end)}, api.ErrArg)
	}
	for _, n := range []int{-1, 385, math.MaxInt, math.MinInt} {
		asItIs(t, api.Block{Count: 1, Bytes: n, Ops: list(k(1), end)}, api.ErrArg)
	}
	for _, n := range []int{-1, 0, 18, 99, math.MaxInt, math.MinInt} {
		asItIs(t, with(api.Op{Kind: n}), api.ErrOp)
	}
	for _, n := range []int{-1, 16, math.MaxInt, math.MinInt} {
		for _, o := range list(get(n), put(n, 0), bin(n, 0, 1), un(n, 0), flags(n, 0, 0, 0), cond(n, 0), load(n, 0), store(n, 0, 0), stopIf(n, 0), stop(n, 0), api.Op{Kind: api.OpSel, W: n}) {
			asItIs(t, with(o), api.ErrOp)
		}
		asItIs(t, with(api.Op{Kind: api.OpIf, N: n}), api.ErrField)
		for _, o := range list(api.Op{A: n}, api.Op{B: n}, api.Op{C: n}, api.Op{K: uint32(n) | 1}, api.Op{N: n}) {
			o.Kind = api.OpNow
			asItIs(t, with(o), api.ErrField)
			o.Kind = api.OpGet
			asItIs(t, with(o), api.ErrField)
		}
		for _, o := range list(put(0, n), bin(0, n, 0), bin(0, 0, n), un(0, n), sel(n, 0, 0), sel(0, n, 0), sel(0, 0, n), flags(0, 0, 0, n), cond(0, n), load(0, n), store(0, 0, n), leaveIf(n), stopIf(1, n)) {
			asItIs(t, with(o), api.ErrTemp)
		}
	}
	asItIs(t, blockOf(k(1), stop(1, -1)), api.ErrField)
	asItIs(t, blockOf(k(1), stop(1, math.MinInt)), api.ErrField)
	asItIs(t, with(put(0, 3)), api.ErrTemp)
	asItIs(t, with(un(0, len(unclean))), api.ErrTemp)
}

// P0: what is handed in stays as it is, and the answer is new, clean already or not.
func TestAnswerIsNew(t *testing.T) {
	for _, b := range []api.Block{blockOf(end), blockOf(get(0), load(0, 0), end), blockOf(append(slices.Clone(unclean), end)...)} {
		o := made(t, b)
		isNew(t, b, o)
		if p := made(t, b); &p.Ops[0] == &o.Ops[0] {
			t.Error("P0 two answers share their operations")
		}
	}
}

// P6.1: PC, Count and Bytes, at their ends.
func TestKeeps(t *testing.T) {
	for _, b := range []api.Block{
		{Ops: list(api.Op{Kind: api.OpGoto})},
		{PC: 0xffffffff, Count: 64, Bytes: 384, Ops: list(k(1), end)},
		{PC: 0x80000000, Count: 1, Bytes: 6, Ops: list(k(1), api.Op{Kind: api.OpIf, N: 1}, end)},
	} {
		made(t, b)
	}
}

// A block of MaxOps operations: of which none, some and all but one are left.
func TestMaxOps(t *testing.T) {
	ops := list(get(0))
	for len(ops) < api.MaxOps-2 {
		ops = append(ops, un(1, len(ops)-1))
	}
	stays(t, "MaxOps, clean already", append(slices.Clone(ops), put(1, len(ops)-1), end)...)
	makes(t, "MaxOps, and none is taken", append(slices.Clone(ops), un(1, 0), end), list(end))

	ops = list(k(1))
	for len(ops) < api.MaxOps-2 {
		ops = append(ops, bin(0, len(ops)-1, 0))
	}
	makes(t, "MaxOps, a sum", append(ops, put(1, len(ops)-1), end), list(k(api.MaxOps-2), put(1, 0), end))

	ops = list(get(0), get(9))
	for len(ops) < api.MaxOps-2 {
		ops = append(ops, now, put(9, 0), now, put(9, 1))
	}
	makes(t, "MaxOps, and one now is enough", append(ops, now, gotoT(api.MaxOps-2)), list(now, gotoT(0)))
}
