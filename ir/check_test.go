package ir_test

import (
	"math"
	"math/rand"
	"slices"
	"testing"

	"crossgrain/api"
	"crossgrain/ir"
)

var end = api.Op{Kind: api.OpGoto, K: 10, N: 1}

func number(k uint32) api.Op { return api.Op{Kind: api.OpConst, K: k} }

func blockOf(count int, ops ...api.Op) api.Block {
	return api.Block{PC: 10, Count: count, Bytes: 2 * count, Ops: ops}
}

func checks(t *testing.T, what string, b api.Block, want api.Errno, where int) {
	t.Helper()
	if err, at := ir.Check(b); err != want || at != where {
		t.Errorf("P4.1 %s: Check = %d, %d, want %d, %d", what, err, at, want, where)
	}
}

// whole: an operation of a kind without fault, if the operations 0 to 2 give.
func whole(kind, w int) api.Op {
	s, _ := shapeOf(kind)
	o := api.Op{Kind: kind, W: w}
	for _, f := range s.needs {
		switch f {
		case 'A':
			o.A = 0
		case 'B':
			o.B = 1
		case 'b':
			o.B = 4096
		case 'C':
			o.C = 2
		case 'K':
			o.K = 77
		case 'N':
			o.N = 1
		}
	}
	return o
}

// behindThree: an operation as number 3, behind three that give, and an end, if it is none.
func behindThree(o api.Op) api.Block {
	b := blockOf(2, number(5), number(6), number(7), o)
	if !isEnd(o.Kind) {
		b.Ops = append(b.Ops, end)
	}
	return b
}

// eachWhole: each kind with each W of it.
func eachWhole(do func(kind int, o api.Op, s shape)) {
	for kind := 1; kind <= 17; kind++ {
		s, _ := shapeOf(kind)
		for w := s.low; w <= s.high; w++ {
			do(kind, whole(kind, w), s)
		}
	}
}

func wrongNumbers() []int {
	return []int{-1, -2, -17, -1 << 32, 1 << 32, 1<<32 + 1, math.MinInt, math.MaxInt}
}

func TestCheckExamples(t *testing.T) {
	put := api.Op{Kind: api.OpPut}
	checks(t, "const, put, goto", blockOf(1, number(5), put, end), api.OK, 0)
	checks(t, "put of what is not there", blockOf(1, put, end), api.ErrTemp, 0)
	checks(t, "goto, goto", blockOf(1, end, end), api.ErrForm, 0)
	checks(t, "const with A", blockOf(1, api.Op{Kind: api.OpConst, K: 1, A: 1}), api.ErrField, 0)
	checks(t, "bin W 16", blockOf(1, api.Op{Kind: api.OpBin, W: 16}), api.ErrOp, 0)
	checks(t, "no operations", blockOf(1), api.ErrForm, 0)
	checks(t, "no block at all", api.Block{}, api.ErrForm, 0)
	checks(t, "an empty list", api.Block{Ops: []api.Op{}}, api.ErrForm, 0)
}

func TestCheckEachKindAndW(t *testing.T) {
	ws := wrongNumbers()
	for w := -3; w < 20; w++ {
		ws = append(ws, w)
	}
	for kind := 1; kind <= 17; kind++ {
		s, _ := shapeOf(kind)
		for _, w := range ws {
			want, where := api.OK, 0
			if w < s.low || w > s.high {
				want, where = api.ErrOp, 3
			}
			if err, at := ir.Check(behindThree(whole(kind, w))); err != want || at != where {
				t.Errorf("P4.1 kind %d, W %d: Check = %d, %d, want %d, %d", kind, w, err, at, want, where)
			}
		}
	}
	for _, kind := range append(wrongNumbers(), 0, 18, 19, 31, 32, 255, 256, 257) {
		checks(t, "no kind", behindThree(api.Op{Kind: kind}), api.ErrOp, 3)
		checks(t, "no kind, at the end", blockOf(1, number(1), api.Op{Kind: kind}), api.ErrOp, 1)
		checks(t, "no kind, alone", blockOf(1, api.Op{Kind: kind}), api.ErrOp, 0)
	}
}

func TestCheckFieldsThatAreNotNeeded(t *testing.T) {
	eachWhole(func(kind int, o api.Op, s shape) {
		for _, n := range append(wrongNumbers(), 1, 2) {
			p := o
			if !s.has('A') {
				p.A = n
				checks(t, "an A too many", behindThree(p), api.ErrField, 3)
			}
			if p = o; !s.has('B') && !s.has('b') {
				p.B = n
				checks(t, "a B too many", behindThree(p), api.ErrField, 3)
			}
			if p = o; !s.has('C') {
				p.C = n
				checks(t, "a C too many", behindThree(p), api.ErrField, 3)
			}
			if p = o; !s.has('N') {
				p.N = n
				checks(t, "an N too many", behindThree(p), api.ErrField, 3)
			}
		}
		for _, k := range []uint32{1, 0x80000000, 0xffffffff} {
			o.K = k
			if s.has('K') {
				checks(t, "any K", behindThree(o), api.OK, 0)
			} else {
				checks(t, "a K too many", behindThree(o), api.ErrField, 3)
			}
		}
	})
}

func TestCheckN(t *testing.T) {
	eachWhole(func(kind int, o api.Op, s shape) {
		if !s.has('N') {
			return
		}
		for _, count := range []int{0, 1, 2, 63, 64} {
			for _, n := range append(wrongNumbers(), 0, 1, 2, count-1, count, count+1, 64, 65) {
				o.N = n
				b := behindThree(o)
				b.Count = count
				if !isEnd(kind) {
					b.Ops[4].N = 0
				}
				if n < 0 || n > count {
					checks(t, "N that is none", b, api.ErrField, 3)
				} else {
					checks(t, "N from 0 to Count", b, api.OK, 0)
				}
			}
		}
	})
}

func TestCheckNumberOfStop(t *testing.T) {
	for _, n := range []int{0, 1, 5, 1 << 31, 1<<32 - 1} {
		checks(t, "B of stop", blockOf(1, api.Op{Kind: api.OpStop, W: 1, B: n}), api.OK, 0)
	}
	for _, n := range wrongNumbers() {
		checks(t, "B of stop that is none", blockOf(1, api.Op{Kind: api.OpStop, W: 1, B: n}), api.ErrField, 0)
	}
}

// Each A, B and C that is needed, by the number of each kind of operation ahead, of itself, of later ones and of none.
func TestCheckNumbersOfOperations(t *testing.T) {
	var ahead []api.Op
	for range 3 {
		ahead = append(ahead, number(1))
	}
	for _, kind := range []int{2, 3, 4, 5, 6, 7, 8, 9, 10, 11, 12, 13, 17} {
		s, _ := shapeOf(kind)
		ahead = append(ahead, whole(kind, s.low))
	}
	at := len(ahead)
	eachWhole(func(kind int, o api.Op, s shape) {
		for _, field := range "ABC" {
			if !s.has(field) {
				continue
			}
			for _, n := range append(wrongNumbers(), 0, 1, 2, 3, 4, 5, 6, 7, 8, 9, 10, 11, 12, 13, 14, 15, at, at+1, at+2, at+3, 2047, 2048) {
				p := o
				switch field {
				case 'A':
					p.A = n
				case 'B':
					p.B = n
				case 'C':
					p.C = n
				}
				b := blockOf(1, slices.Concat(ahead, []api.Op{p})...)
				if !isEnd(kind) {
					b.Ops = append(b.Ops, number(1), end)
				}
				gives := false
				if n >= 0 && n < at {
					t, _ := shapeOf(ahead[n].Kind)
					gives = t.gives
				}
				if gives {
					checks(t, "what gives", b, api.OK, 0)
				} else {
					checks(t, "what does not give", b, api.ErrTemp, at)
				}
			}
		}
	})
}

func TestCheckEnds(t *testing.T) {
	ends := []api.Op{whole(14, 1), whole(15, 0), whole(16, 0)}
	for _, o := range ends {
		checks(t, "an end at the end", blockOf(1, number(1), o), api.OK, 0)
		for _, p := range ends {
			checks(t, "two ends", blockOf(1, number(1), o, p), api.ErrForm, 1)
		}
		checks(t, "an end in the middle", blockOf(1, number(1), o, number(1), end), api.ErrForm, 1)
		checks(t, "an end, then none", blockOf(1, number(1), o, number(1)), api.ErrForm, 1)
	}
	eachWhole(func(kind int, o api.Op, s shape) {
		if !isEnd(kind) {
			checks(t, "the last is no end", blockOf(1, number(1), number(2), number(3), o), api.ErrForm, 4)
		}
	})
}

// long: so many operations, the last an end.
func long(n int) []api.Op {
	ops := make([]api.Op, n)
	for i := range ops {
		ops[i] = number(uint32(i))
	}
	ops[n-1] = end
	return ops
}

func TestCheckLimits(t *testing.T) {
	checks(t, "MaxOps", blockOf(1, long(2048)...), api.OK, 0)
	checks(t, "one more", blockOf(1, long(2049)...), api.ErrLarge, -1)
	checks(t, "MaxOps without an end", blockOf(1, long(2049)[:2048]...), api.ErrForm, 2048)
	goto0 := api.Op{Kind: api.OpGoto}
	for _, n := range []int{0, 1, 63, 64} {
		checks(t, "Count", api.Block{Count: n, Ops: []api.Op{goto0}}, api.OK, 0)
	}
	for _, n := range append(wrongNumbers(), 65, 66) {
		checks(t, "Count that is none", api.Block{Count: n, Ops: []api.Op{goto0}}, api.ErrArg, -1)
	}
	for _, n := range []int{0, 1, 64, 65, 383, 384} {
		checks(t, "Bytes", api.Block{Bytes: n, Ops: []api.Op{goto0}}, api.OK, 0)
	}
	for _, n := range append(wrongNumbers(), 385, 386) {
		checks(t, "Bytes that are none", api.Block{Bytes: n, Ops: []api.Op{goto0}}, api.ErrArg, -1)
	}
	checks(t, "the most of all", api.Block{PC: 0xffffffff, Count: 64, Bytes: 384, Ops: long(2048)}, api.OK, 0)
}

// Several faults: the first in the chapter's order, and in the operations' order, is told.
func TestCheckFirstFault(t *testing.T) {
	few := func(ops ...api.Op) api.Block { return blockOf(1, ops...) }
	many := make([]api.Op, 2049)
	checks(t, "too many, and Count", api.Block{Count: -1, Bytes: -1, Ops: many}, api.ErrLarge, -1)
	checks(t, "too many, and a kind", api.Block{Ops: many}, api.ErrLarge, -1)
	checks(t, "Count, and no operations", api.Block{Count: 65}, api.ErrArg, -1)
	checks(t, "Bytes, and a kind", api.Block{Bytes: -1, Ops: many[:1]}, api.ErrArg, -1)

	checks(t, "W, field, number", few(api.Op{Kind: api.OpPut, W: 12, A: 9, B: 1}, end), api.ErrOp, 0)
	checks(t, "kind, field", few(api.Op{Kind: 18, A: 9, N: -1}), api.ErrOp, 0)
	checks(t, "W of what needs none, field", few(api.Op{Kind: api.OpConst, W: 1, A: 1}, end), api.ErrOp, 0)
	checks(t, "W of stop, its B", few(api.Op{Kind: api.OpStop, B: -1}, end), api.ErrOp, 0)
	checks(t, "field, number", few(api.Op{Kind: api.OpPut, A: 9, B: 1}, end), api.ErrField, 0)
	checks(t, "N, number", few(api.Op{Kind: api.OpIf, A: 9, N: 2}, end), api.ErrField, 0)
	checks(t, "N, not the last", few(api.Op{Kind: api.OpGoto, N: 2}, end), api.ErrField, 0)
	checks(t, "B of stop, not the last", few(api.Op{Kind: api.OpStop, W: 1, B: -1}, end), api.ErrField, 0)
	checks(t, "number, not the last", few(api.Op{Kind: api.OpGotoT, A: 9}, end), api.ErrTemp, 0)
	checks(t, "W, not the last", few(api.Op{Kind: api.OpGoto, W: 1}, end), api.ErrOp, 0)

	checks(t, "a later one has the earlier error", few(number(1), api.Op{Kind: api.OpPut, A: 7}, api.Op{Kind: 99}), api.ErrTemp, 1)
	checks(t, "not the last, then a kind", few(end, api.Op{Kind: 99}), api.ErrForm, 0)
	checks(t, "a field, then no end", few(number(1), api.Op{Kind: api.OpNow, K: 1}), api.ErrField, 1)
	checks(t, "a number, and no end", few(number(1), api.Op{Kind: api.OpPut, A: 1}), api.ErrTemp, 1)
	checks(t, "a kind in the last place", few(number(1), end, api.Op{Kind: 0}), api.ErrForm, 1)
}

// chanceOp: an operation without fault behind others, of which some give.
func chanceOp(r *rand.Rand, kind, count int, given []int) api.Op {
	s, _ := shapeOf(kind)
	o := api.Op{Kind: kind, W: s.low + r.Intn(s.high-s.low+1)}
	take := func() int { return given[r.Intn(len(given))] }
	for _, f := range s.needs {
		switch f {
		case 'A':
			o.A = take()
		case 'B':
			o.B = take()
		case 'b':
			o.B = int(r.Uint32())
		case 'C':
			o.C = take()
		case 'K':
			o.K = chanceNumber(r)
		case 'N':
			o.N = r.Intn(count + 1)
		}
	}
	return o
}

// chanceNumber: an end of the numbers, a place near one of the memory's pages, or any.
func chanceNumber(r *rand.Rand) uint32 {
	switch r.Intn(4) {
	case 0:
		return ends()[r.Intn(len(ends()))]
	case 1:
		return uint32(r.Intn(4)*256 - 3 + r.Intn(6))
	case 2:
		return uint32(r.Intn(40))
	}
	return r.Uint32()
}

// chanceBlock: a block without fault, of some few operations.
func chanceBlock(r *rand.Rand) api.Block {
	b := blockOf(r.Intn(65), number(chanceNumber(r)))
	given := []int{0}
	inner := []int{1, 1, 2, 2, 3, 3, 4, 4, 4, 5, 5, 6, 6, 7, 7, 8, 8, 9, 10, 10, 11, 12, 13, 17, 17}
	for i := 1; i < 4+r.Intn(30); i++ {
		kind := inner[r.Intn(len(inner))]
		b.Ops = append(b.Ops, chanceOp(r, kind, b.Count, given))
		if s, _ := shapeOf(kind); s.gives {
			given = append(given, i)
		}
	}
	b.Ops = append(b.Ops, chanceOp(r, 14+r.Intn(3), b.Count, given))
	return b
}

// spoil: a field of an operation, or the block's, becomes another number.
func spoil(r *rand.Rand, b *api.Block) {
	n := r.Intn(22) - 3
	if r.Intn(8) == 0 {
		n = wrongNumbers()[r.Intn(len(wrongNumbers()))]
	}
	o := &b.Ops[r.Intn(len(b.Ops))]
	switch r.Intn(10) {
	case 0:
		o.Kind = n
	case 1:
		o.W = n
	case 2:
		o.A = n
	case 3:
		o.B = n
	case 4:
		o.C = n
	case 5:
		o.K = uint32(n)
	case 6:
		o.N = n
	case 7:
		b.Count = n * 8
	case 8:
		b.Bytes = n * 40
	case 9:
		b.Ops = b.Ops[:r.Intn(len(b.Ops))+1]
	}
}

func TestCheckAgainstSlow(t *testing.T) {
	r := rand.New(rand.NewSource(4))
	seen := map[api.Errno]int{}
	for range 30000 {
		b := chanceBlock(r)
		for range r.Intn(4) {
			spoil(r, &b)
		}
		was := slices.Clone(b.Ops)
		want, where := slowCheck(b)
		if err, at := ir.Check(b); err != want || at != where {
			t.Fatalf("P4.1 Check(%+v) = %d, %d, want %d, %d", b, err, at, want, where)
		}
		if !slices.Equal(was, b.Ops) {
			t.Fatal("P0 Check wrote into what was handed in")
		}
		seen[want]++
	}
	for _, err := range []api.Errno{api.OK, api.ErrArg, api.ErrOp, api.ErrField, api.ErrTemp, api.ErrForm} {
		if seen[err] < 100 {
			t.Errorf("only %d of 30000 blocks are error %d: this test tells little", seen[err], err)
		}
	}
}
