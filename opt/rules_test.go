package opt_test

import (
	"math/rand"
	"slices"
	"testing"

	"crossgrain/api"
	"crossgrain/interp"
)

var (
	end   = api.Op{Kind: api.OpGoto, K: 10, N: 1}
	watch = api.Op{Kind: api.OpWatch, K: 20, N: 2}
	now   = api.Op{Kind: api.OpNow}
)

func k(x uint32) api.Op           { return api.Op{Kind: api.OpConst, K: x} }
func get(w int) api.Op            { return api.Op{Kind: api.OpGet, W: w} }
func put(w, a int) api.Op         { return api.Op{Kind: api.OpPut, W: w, A: a} }
func bin(w, a, b int) api.Op      { return api.Op{Kind: api.OpBin, W: w, A: a, B: b} }
func un(w, a int) api.Op          { return api.Op{Kind: api.OpUn, W: w, A: a} }
func sel(a, b, c int) api.Op      { return api.Op{Kind: api.OpSel, A: a, B: b, C: c} }
func flags(w, a, b, c int) api.Op { return api.Op{Kind: api.OpFlags, W: w, A: a, B: b, C: c} }
func cond(w, a int) api.Op        { return api.Op{Kind: api.OpCond, W: w, A: a} }
func load(w, a int) api.Op        { return api.Op{Kind: api.OpLoad, W: w, A: a, K: 21, N: 2} }
func store(w, a, b int) api.Op    { return api.Op{Kind: api.OpStore, W: w, A: a, B: b, K: 22, N: 2} }
func leaveIf(a int) api.Op        { return api.Op{Kind: api.OpIf, A: a, K: 23, N: 3} }
func stopIf(w, a int) api.Op      { return api.Op{Kind: api.OpStopIf, W: w, A: a, K: 24, N: 3} }
func stop(w, b int) api.Op        { return api.Op{Kind: api.OpStop, W: w, B: b, K: 24, N: 3} }
func gotoT(a int) api.Op          { return api.Op{Kind: api.OpGotoT, A: a, N: 3} }

func list(ops ...api.Op) []api.Op { return ops }

// leavers: each that leaves, of the value a.
func leavers(a int) []api.Op {
	return list(load(0, a), store(0, a, a), watch, leaveIf(a), stopIf(2, a))
}

// makes: of these operations just those are made, and they do the same.
func makes(t *testing.T, what string, from, want []api.Op) {
	t.Helper()
	o := holds(t, rand.New(rand.NewSource(6)), blockOf(from...), 4)
	if !slices.Equal(o.Ops, want) {
		t.Errorf("P6.3 %s:%sis made as%swant%s", what, told(from), told(o.Ops), told(want))
	}
}

// stays: these operations are clean already.
func stays(t *testing.T, what string, ops ...api.Op) {
	t.Helper()
	makes(t, what, ops, ops)
}

func TestExamples(t *testing.T) {
	makes(t, "a sum of consts", list(k(2), k(3), bin(0, 0, 1), put(0, 2), end), list(k(5), put(0, 0), end))
	makes(t, "a put of what is there", list(get(1), put(1, 0), end), list(end))
	makes(t, "two puts", list(k(1), put(8, 0), k(3), put(8, 2), end), list(k(3), put(8, 0), end))
	makes(t, "an if of 0", list(k(0), leaveIf(0), end), list(end))
	stays(t, "a load that no other takes", get(0), load(0, 0), end)
}

// Rule 1: what gives a value that no other takes, of each kind; and what only it took.
func TestValuesThatNoOtherTakes(t *testing.T) {
	for _, o := range list(k(7), get(3), bin(4, 0, 1), un(2, 1), sel(0, 1, 0), flags(3, 0, 1, 0), cond(5, 1), now) {
		makes(t, "a value that no other takes", list(get(0), get(1), store(0, 0, 1), o, end), list(get(0), get(1), store(0, 0, 1), end))
		makes(t, "and those that it takes", list(get(0), get(1), o, end), list(end))
	}
	makes(t, "one behind the other", list(get(0), un(0, 0), un(1, 1), un(2, 2), cond(3, 3), end), list(end))
	makes(t, "with new numbers", list(get(5), get(0), get(6), get(1), bin(1, 1, 3), put(2, 4), end), list(get(0), get(1), bin(1, 0, 1), put(2, 2), end))
	for w := range 5 {
		stays(t, "a load that no other takes", get(0), load(w, 0), end)
		stays(t, "the same load again", get(0), load(w, 0), load(w, 0), end)
		makes(t, "what is of a load that no other takes", list(get(0), load(w, 0), un(0, 1), end), list(get(0), load(w, 0), end))
	}
	for _, o := range list(put(1, 0), store(0, 0, 0), leaveIf(0), stopIf(7, 0)) {
		stays(t, "it is taken", get(0), o, end)
	}
	stays(t, "it is taken by the end", get(0), gotoT(0))
	makes(t, "stop's B is no operation's number", list(get(0), stop(1, 0)), list(stop(1, 0)))
	stays(t, "nor is it renumbered", stop(1, 4096))
	makes(t, "a put that is dropped leaves one", list(get(0), un(0, 0), put(1, 1), get(2), put(1, 3), end), list(get(2), put(1, 0), end))
}

// Rule 2, bin: of consts, by hand.
func TestBinOfConsts(t *testing.T) {
	const top, all = 0x80000000, 0xffffffff
	for _, c := range []struct {
		w          int
		a, b, want uint32
	}{
		{0, 2, 3, 5}, {0, all, 1, 0}, {1, 2, 3, all}, {1, 0, top, top}, {2, 12, 10, 8}, {3, 12, 10, 14}, {4, 12, 10, 6}, {4, all, all, 0},
		{5, 3, 0, 3}, {5, 3, 31, top}, {5, 3, 32, 3}, {5, 3, 33, 6}, {5, 3, all, top},
		{6, 0xc0000000, 0, 0xc0000000}, {6, 0xc0000000, 31, 1}, {6, 0xc0000000, 32, 0xc0000000}, {6, 0xc0000000, 33, 0x60000000},
		{7, 0xc0000000, 0, 0xc0000000}, {7, 0xc0000000, 31, all}, {7, 0xc0000000, 32, 0xc0000000}, {7, 0xc0000000, 33, 0xe0000000}, {7, 0x40000000, 31, 0},
		{8, 0x80000001, 0, 0x80000001}, {8, 0x80000001, 31, 0xc0000000}, {8, 0x80000001, 32, 0x80000001}, {8, 0x80000001, 33, 3},
		{9, 0x10000, 0x10000, 0}, {9, all, all, 1}, {10, 0x10000, 0x10000, 1}, {10, all, all, 0xfffffffe},
		{11, 7, 2, 3}, {11, 7, 0, all}, {11, 0, 0, all}, {11, all, 1, all}, {12, 7, 2, 1}, {12, 7, 0, 7}, {12, 0, 0, 0},
		{13, 7, 7, 1}, {13, 7, 8, 0}, {14, 7, 8, 1}, {14, 8, 7, 0}, {14, 1, all, 1}, {14, 7, 7, 0}, {15, 1, all, 0}, {15, all, 1, 1}, {15, top, 0, 1}, {15, 7, 7, 0},
	} {
		makes(t, "bin of consts", list(k(c.a), k(c.b), bin(c.w, 0, 1), put(0, 2), end), list(k(c.want), put(0, 0), end))
		if c.a == c.b {
			makes(t, "bin of one const", list(k(c.a), bin(c.w, 0, 0), put(0, 1), end), list(k(c.want), put(0, 0), end))
		}
		stays(t, "bin of what is none, and a const", get(1), k(c.b), bin(c.w, 0, 1), put(0, 2), end)
		stays(t, "bin of a const, and what is none", k(c.b), get(1), bin(c.w, 0, 1), put(0, 2), end)
	}
}

// Rule 2, un: of a const, by hand.
func TestUnOfConsts(t *testing.T) {
	for _, c := range []struct {
		w       int
		a, want uint32
	}{
		{0, 0, 0xffffffff}, {0, 0x12345678, 0xedcba987}, {1, 1, 0xffffffff}, {1, 0x80000000, 0x80000000}, {1, 0, 0},
		{2, 0x17f, 0x7f}, {2, 0x180, 0xffffff80}, {3, 0x17fff, 0x7fff}, {3, 0x18000, 0xffff8000}, {4, 0x1ff, 0xff}, {5, 0x1ffff, 0xffff},
		{6, 0, 1}, {6, 1, 0}, {6, 0x80000000, 0},
	} {
		makes(t, "un of a const", list(k(c.a), un(c.w, 0), put(0, 1), end), list(k(c.want), put(0, 0), end))
		stays(t, "un of what is none", get(1), un(c.w, 0), put(0, 1), end)
	}
}

// Rule 2, flags: each kind, of consts, and of some that are none.
func TestFlagsOfConsts(t *testing.T) {
	numbers := []uint32{0, 1, 31, 32, 0x80000000, 0xffffffff}
	for w := range 13 {
		for _, a := range numbers {
			for _, b := range numbers {
				for _, old := range []uint32{0, 4, 0xfffffff0, 0xffffffff} {
					makes(t, "flags of consts", list(k(a), k(b), k(old), flags(w, 0, 1, 2), put(0, 3), end), list(k(interp.Flags(w, a, b, old)), put(0, 0), end))
				}
			}
		}
		stays(t, "flags, A none", get(1), k(2), k(3), flags(w, 0, 1, 2), put(0, 3), end)
		stays(t, "flags, B none", k(2), get(1), k(3), flags(w, 0, 1, 2), put(0, 3), end)
		stays(t, "flags, C none", k(2), k(3), get(1), flags(w, 0, 1, 2), put(0, 3), end)
	}
	makes(t, "flags by hand", list(k(0xffffffff), k(1), k(0), flags(1, 0, 1, 2), put(0, 3), end), list(k(5), put(0, 0), end))
	makes(t, "flags by hand", list(k(0), k(1), flags(3, 0, 1, 0), put(0, 2), end), list(k(6), put(0, 0), end))
}

// Rule 2, cond: each condition, of consts.
func TestCondOfConsts(t *testing.T) {
	for w := range 16 {
		for f := range uint32(16) {
			want := uint32(0)
			if interp.Holds(w, f) {
				want = 1
			}
			makes(t, "cond of a const", list(k(f), cond(w, 0), put(0, 1), end), list(k(want), put(0, 0), end))
			makes(t, "cond of other bits too", list(k(f+0x70), cond(w, 0), put(0, 1), end), list(k(want), put(0, 0), end))
		}
		stays(t, "cond of what is none", now, cond(w, 0), put(0, 1), end)
	}
	makes(t, "cond by hand", list(k(4), cond(2, 0), cond(3, 0), put(0, 1), put(1, 2), end), list(k(1), k(0), put(0, 0), put(1, 1), end))
}

// Rule 2, sel: a const as its A, and others that are none.
func TestSelOfConsts(t *testing.T) {
	for _, a := range []uint32{1, 2, 0x80000000, 0xffffffff} {
		makes(t, "sel, A is not 0", list(k(a), get(1), get(2), sel(0, 1, 2), put(0, 3), end), list(get(1), put(0, 0), end))
		makes(t, "sel of consts, A is not 0", list(k(a), k(7), k(8), sel(0, 1, 2), put(0, 3), end), list(k(7), put(0, 0), end))
		makes(t, "sel of its A", list(k(a), get(1), sel(0, 0, 1), put(0, 2), end), list(k(a), put(0, 0), end))
	}
	makes(t, "sel, A is 0", list(k(0), get(1), get(2), sel(0, 1, 2), put(0, 3), end), list(get(2), put(0, 0), end))
	makes(t, "sel of consts, A is 0", list(k(0), k(7), k(8), sel(0, 1, 2), put(0, 3), end), list(k(8), put(0, 0), end))
	makes(t, "sel, A is 0 by what is folded", list(k(3), k(4), bin(13, 0, 1), get(1), get(2), sel(2, 3, 4), put(0, 5), end), list(get(2), put(0, 0), end))
	stays(t, "sel, A is none, B and C are", get(1), k(7), k(8), sel(0, 1, 2), put(0, 3), end)
	stays(t, "sel, B is", get(1), k(7), get(2), sel(0, 1, 2), put(0, 3), end)
	makes(t, "sel of a load that no other takes then", list(k(0), get(1), load(4, 1), get(2), sel(0, 2, 3), put(0, 4), end), list(get(1), load(4, 0), get(2), put(0, 2), end))
	makes(t, "one fold behind the other", list(k(2), k(3), bin(9, 0, 1), un(0, 2), un(0, 3), cond(8, 4), put(0, 4), put(1, 5), end), list(k(6), k(1), put(0, 0), put(1, 1), end))
}

// Rule 3: if and stopif of consts.
func TestIfOfConsts(t *testing.T) {
	makes(t, "a stopif of 0", list(k(0), stopIf(7, 0), end), list(end))
	makes(t, "an if of 0, and what is behind it", list(k(0), leaveIf(0), get(1), put(2, 2), end), list(get(1), put(2, 0), end))
	makes(t, "a stopif of 0, and what is behind it", list(k(0), stopIf(1, 0), get(1), put(2, 2), gotoT(0)), list(k(0), get(1), put(2, 1), gotoT(0)))
	for _, a := range []uint32{1, 2, 0x80000000, 0xffffffff} {
		leave := api.Op{Kind: api.OpGoto, K: 23, N: 3}
		makes(t, "an if that always leaves", list(k(a), leaveIf(0), get(1), load(4, 2), store(2, 2, 3), watch, put(2, 2), end), list(leave))
		makes(t, "and what is ahead", list(k(a), get(1), load(4, 1), put(2, 2), store(2, 1, 0), leaveIf(0), put(2, 1), gotoT(0)), list(k(a), get(1), load(4, 1), put(2, 2), store(2, 1, 0), leave))
		makes(t, "of two the first counts", list(k(a), leaveIf(0), stopIf(3, 0), end), list(leave))
		for w := 1; w <= 7; w++ {
			makes(t, "a stopif that always stops", list(k(a), stopIf(w, 0), get(1), put(2, 2), end), list(stop(w, 0)))
			makes(t, "and what is ahead of it", list(k(a), put(3, 0), stopIf(w, 0), put(4, 0), end), list(k(a), put(3, 0), stop(w, 0)))
		}
	}
	makes(t, "by what is folded", list(k(3), k(3), bin(13, 0, 1), leaveIf(2), get(1), put(2, 4), end), list(api.Op{Kind: api.OpGoto, K: 23, N: 3}))
	makes(t, "puts around an if that is dropped", list(k(0), get(1), put(2, 1), leaveIf(0), put(2, 0), end), list(k(0), put(2, 0), end))
	stays(t, "of what is none", get(1), leaveIf(0), stopIf(1, 0), end)
	stays(t, "a gotot of a const", k(8), gotoT(0))
}

// Rule 4: operations that are the same in all fields, and such as are not.
func TestSameOperations(t *testing.T) {
	makes(t, "consts", list(k(5), k(5), put(0, 0), put(1, 1), end), list(k(5), put(0, 0), put(1, 0), end))
	stays(t, "other consts", k(5), k(6), put(0, 0), put(1, 1), end)
	for _, o := range list(bin(1, 0, 1), un(3, 0), sel(0, 1, 0), flags(2, 0, 1, 0), cond(5, 1)) {
		makes(t, "the same", list(get(0), get(1), store(0, 0, 1), o, o, put(2, 3), put(3, 4), end), list(get(0), get(1), store(0, 0, 1), o, put(2, 3), put(3, 3), end))
		makes(t, "with what leaves between", list(get(0), get(1), o, put(2, 2), leaveIf(0), store(0, 0, 1), o, put(3, 6), end), list(get(0), get(1), o, put(2, 2), leaveIf(0), store(0, 0, 1), put(3, 2), end))
	}
	for w := range 16 {
		stays(t, "another way", get(0), get(1), bin(w, 0, 1), bin((w+1)%16, 0, 1), put(2, 2), put(3, 3), end)
		stays(t, "the other way round", get(0), get(1), bin(w, 0, 1), bin(w, 1, 0), put(2, 2), put(3, 3), end)
	}
	stays(t, "another A", get(0), get(1), un(0, 0), un(0, 1), put(2, 2), put(3, 3), end)
	stays(t, "another C", get(0), get(1), flags(2, 0, 1, 0), flags(2, 0, 1, 1), put(2, 2), put(3, 3), end)
	makes(t, "the same by what they take", list(get(0), get(0), un(0, 0), un(0, 1), bin(0, 2, 3), put(1, 4), end), list(get(0), un(0, 0), bin(0, 1, 1), put(1, 2), end))
	makes(t, "what is folded is there", list(k(5), put(0, 0), k(2), k(3), bin(0, 2, 3), put(1, 4), end), list(k(5), put(0, 0), put(1, 0), end))
	stays(t, "loads may be others", get(0), load(4, 0), load(4, 0), put(1, 1), put(2, 2), end)
	stays(t, "what is done is done again", get(0), store(0, 0, 0), store(0, 0, 0), watch, watch, leaveIf(0), leaveIf(0), stopIf(1, 0), stopIf(1, 0), end)
}

// Rule 5: a get behind a get or a put of its slot, of each slot.
func TestGets(t *testing.T) {
	for w := range 12 {
		other := (w + 1) % 12
		makes(t, "a get behind a get", list(get(w), get(w), bin(1, 0, 1), put(other, 2), end), list(get(w), bin(1, 0, 0), put(other, 1), end))
		makes(t, "a get behind a put", list(get(other), un(0, 0), put(w, 1), get(w), put(other, 3), end), list(get(other), un(0, 0), put(w, 1), put(other, 1), end))
		stays(t, "a get of another slot", get(w), get(other), bin(1, 0, 1), put(w, 2), end)
		for _, o := range leavers(0) {
			makes(t, "with what leaves between", list(get(w), o, get(w), store(2, 0, 2), end), list(get(w), o, store(2, 0, 0), end))
		}
	}
}

// Rule 6: two puts of a slot, with each that may stand between, of each slot.
func TestPuts(t *testing.T) {
	for w := range 12 {
		makes(t, "nothing between", list(get(0), k(1), put(w, 1), k(2), put(w, 3), gotoT(0)), list(get(0), k(2), put(w, 1), gotoT(0)))
		makes(t, "of three the last", list(k(1), k(2), k(3), put(w, 0), put(w, 1), put(w, 2), end), list(k(3), put(w, 0), end))
		for _, o := range leavers(0) {
			stays(t, "one that leaves", get(0), un(0, 0), put(w, 1), o, un(1, 0), put(w, 4), end)
			makes(t, "one that leaves, ahead of both", list(get(0), un(0, 0), o, put(w, 1), un(1, 0), put(w, 4), end), list(get(0), o, un(1, 0), put(w, 2), end))
			makes(t, "one that leaves, behind both", list(get(0), un(0, 0), put(w, 1), un(1, 0), put(w, 3), o, end), list(get(0), un(1, 0), put(w, 1), o, end))
		}
		makes(t, "a get of that slot, which is known", list(get(0), un(0, 0), put(w, 1), get(w), un(1, 3), put(w, 4), end), list(get(0), un(0, 0), un(1, 1), put(w, 2), end))
		behindNow := list(get(0), un(0, 0), put(w, 1), now, un(1, 0), put(w, 4), gotoT(3))
		if w < 8 {
			makes(t, "a now", behindNow, list(get(0), now, un(1, 0), put(w, 2), gotoT(1)))
		} else {
			stays(t, "a now", behindNow...)
		}
		makes(t, "a now that no other takes", list(get(0), un(0, 0), put(w, 1), now, un(1, 0), put(w, 4), end), list(get(0), un(1, 0), put(w, 1), end))
	}
	ops := list(get(0), un(0, 0))
	for w := range 12 {
		ops = append(ops, put(w, 1))
	}
	stays(t, "a put of each slot", append(ops, end)...)
	makes(t, "a now that is known, and no put need be there for it",
		list(get(0), k(3), put(8, 1), put(9, 0), put(10, 1), put(11, 0), now, put(8, 0), put(9, 1), put(10, 0), put(11, 1), gotoT(6)),
		list(get(0), k(3), flags(3, 0, 1, 0), put(8, 0), put(9, 1), put(10, 0), put(11, 1), gotoT(2)))
	makes(t, "a chain of nows of which the last is not taken",
		list(get(0), put(9, 0), now, put(9, 2), now, put(10, 4), now, put(11, 6), now, un(0, 0), put(9, 9), put(10, 9), put(11, 9), end),
		list(get(0), un(0, 0), put(9, 1), put(10, 1), put(11, 1), end))
}

// Rule 7: a put of what the slot has already, by a get and by a put.
func TestPutsOfWhatIsThere(t *testing.T) {
	for w := range 12 {
		other := (w + 1) % 12
		makes(t, "by a get", list(get(w), put(w, 0), end), list(end))
		makes(t, "by a get, with a put of another slot between", list(get(w), put(other, 0), put(w, 0), end), list(get(w), put(other, 0), end))
		makes(t, "by a put", list(get(other), put(w, 0), put(w, 0), end), list(get(other), put(w, 0), end))
		for _, o := range leavers(0) {
			makes(t, "by a get, with what leaves between", list(get(w), o, put(w, 0), gotoT(0)), list(get(w), o, gotoT(0)))
			makes(t, "by a put, with what leaves between", list(get(other), put(w, 0), o, put(w, 0), gotoT(0)), list(get(other), put(w, 0), o, gotoT(0)))
			stays(t, "by a get, but with a put of another value between", get(w), un(0, 0), put(w, 1), o, put(w, 0), end)
		}
		makes(t, "by a get, when the put between is dropped", list(get(w), un(0, 0), put(w, 1), put(w, 0), end), list(end))
		makes(t, "by way of another slot", list(get(w), put(other, 0), get(other), put(w, 2), end), list(get(w), put(other, 0), end))
		stays(t, "two slots change places", get(w), get(other), put(w, 1), put(other, 0), end)
	}
	makes(t, "by consts that are the same", list(k(1), put(3, 0), watch, k(1), put(3, 3), end), list(k(1), put(3, 0), watch, end))
	stays(t, "by other operations, be they the same or not", get(0), put(3, 0), load(4, 0), put(3, 2), load(4, 0), put(3, 4), end)
}

// Rule 8: a now behind a now.
func TestNowBehindNow(t *testing.T) {
	makes(t, "nothing between", list(now, now, store(0, 0, 1), end), list(now, store(0, 0, 0), end))
	for w := range 12 {
		from := list(get(0), now, un(0, 0), put(w, 2), now, store(0, 1, 4), end)
		if w < 8 {
			makes(t, "a put below 8", from, list(get(0), now, un(0, 0), put(w, 2), store(0, 1, 1), end))
		} else {
			stays(t, "a put from 8 on", from...)
			makes(t, "a put of what is there", list(get(w), now, put(w, 0), now, store(0, 1, 3), end), list(now, store(0, 0, 0), end))
			makes(t, "a get", list(now, get(w), now, store(0, 0, 1), store(0, 2, 2), end), list(now, get(w), store(0, 0, 1), store(0, 0, 0), end))
			makes(t, "puts that are dropped", list(get(w), get(0), now, put(w, 1), now, put(w, 0), now, store(2, 2, 6), end), list(now, store(2, 0, 0), end))
		}
	}
	for _, o := range leavers(0) {
		makes(t, "what leaves", list(get(0), now, o, now, store(0, 1, 3), gotoT(0)), list(get(0), now, o, store(0, 1, 1), gotoT(0)))
	}
	makes(t, "gets behind the first let the second be known", list(k(3), put(8, 0), now, get(9), get(10), get(11), now, store(0, 2, 6), end), list(k(3), put(8, 0), now, store(0, 2, 2), end))
}

// kindOf: how flags are made by what a slot 8 has.
func kindOf(k uint32) int {
	if k > 12 {
		return 0
	}
	return int(k)
}

// Rule 8: a now where it is known how flags are made, and of what.
func TestNowThatIsKnown(t *testing.T) {
	for _, n := range []uint32{0, 1, 2, 3, 4, 5, 6, 7, 8, 9, 10, 11, 12, 13, 14, 16, 0x80000000, 0x80000003, 0xffffffff} {
		w := kindOf(n)
		makes(t, "by puts", list(get(0), get(1), get(2), k(n), put(8, 3), put(9, 0), put(10, 1), put(11, 2), now, gotoT(8)),
			list(get(0), get(1), get(2), k(n), put(8, 3), put(9, 0), put(10, 1), put(11, 2), flags(w, 0, 1, 2), gotoT(8)))
		makes(t, "by gets and a put", list(get(9), get(10), get(11), k(n), put(8, 3), now, gotoT(5)),
			list(get(9), get(10), get(11), k(n), put(8, 3), flags(w, 0, 1, 2), gotoT(5)))
		makes(t, "again", list(get(9), get(10), get(11), k(n), put(8, 3), now, now, store(0, 5, 6), end),
			list(get(9), get(10), get(11), k(n), put(8, 3), flags(w, 0, 1, 2), store(0, 5, 5), end))
		makes(t, "of others then", list(get(9), get(10), get(11), k(n), put(8, 3), now, put(9, 2), now, store(0, 5, 7), end),
			list(get(9), get(10), get(11), k(n), put(8, 3), flags(w, 0, 1, 2), put(9, 2), flags(w, 2, 1, 2), store(0, 5, 7), end))
		for _, old := range []uint32{0, 15, 0xffffffff} {
			value := k(interp.Flags(w, 0x80000000, 0xffffffff, old))
			made := holds(t, rand.New(rand.NewSource(8)), blockOf(k(n), k(0x80000000), k(0xffffffff), k(old), put(8, 0), put(9, 1), put(10, 2), put(11, 3), now, gotoT(8)), 2).Ops
			if last := made[len(made)-1]; made[last.A] != value {
				t.Errorf("P6.3 the flags of consts, by %x: %+v, want %+v", n, made[last.A], value)
			}
		}
	}
	makes(t, "by what is folded", list(get(9), get(10), get(11), k(1), k(2), bin(0, 3, 4), put(8, 5), now, gotoT(7)),
		list(get(9), get(10), get(11), k(3), put(8, 3), flags(3, 0, 1, 2), gotoT(5)))
	makes(t, "by the last put", list(get(9), get(10), get(11), put(8, 0), k(4), put(8, 4), now, gotoT(6)),
		list(get(9), get(10), get(11), k(4), put(8, 3), flags(4, 0, 1, 2), gotoT(5)))
	makes(t, "by way of a get", list(get(9), get(10), get(11), k(4), put(8, 3), get(8), un(0, 5), now, store(0, 6, 7), end),
		list(get(9), get(10), get(11), k(4), put(8, 3), k(0xfffffffb), flags(4, 0, 1, 2), store(0, 5, 6), end))
	makes(t, "the first is not known, the second is", list(now, k(5), put(8, 1), put(9, 0), put(10, 0), put(11, 0), now, store(0, 0, 6), end),
		list(now, k(5), put(8, 1), put(9, 0), put(10, 0), put(11, 0), flags(5, 0, 0, 0), store(0, 0, 6), end))
}

// Rule 8: a now where that is not known.
func TestNowThatIsNotKnown(t *testing.T) {
	for missing := 8; missing <= 11; missing++ {
		ops := list(k(3))
		for w := 8; w <= 11; w++ {
			if w != missing {
				ops = append(ops, put(w, 0))
			}
		}
		stays(t, "three of the four", append(ops, now, gotoT(4))...)
	}
	stays(t, "slot 8 by a get", get(8), un(0, 0), put(9, 1), put(10, 1), put(11, 1), now, store(0, 0, 5), end)
	stays(t, "slot 8 has what is no const", get(0), put(8, 0), put(9, 0), put(10, 0), put(11, 0), now, gotoT(5))
	makes(t, "slot 8 has a const no more", list(get(0), k(3), put(8, 1), put(9, 0), put(10, 0), put(11, 0), put(8, 0), now, gotoT(7)),
		list(get(0), put(9, 0), put(10, 0), put(11, 0), put(8, 0), now, gotoT(5)))
	stays(t, "the puts are behind it", get(0), k(3), now, put(8, 1), put(9, 0), put(10, 0), put(11, 0), gotoT(2))
}
