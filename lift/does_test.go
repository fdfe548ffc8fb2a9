package lift_test

import (
	"fmt"
	"math/rand"
	"testing"

	"crossgrain/api"
	"crossgrain/guest"
	"crossgrain/interp"
	"crossgrain/ir"
	"crossgrain/lift"
)

// eachIns: each Op with each of its sorts, each pair of registers, and numbers
// of all sorts.
func eachIns(do func(x api.Ins)) {
	numbers := []uint32{0, 1, 4, 31, 32, 33, 0x7f, 0xffffff80, 0xffffffff, 0x80000000, 0x7fffffff}
	for op := range 32 {
		for o := range 16 {
			for d := range 8 {
				for s := range 8 {
					for _, imm := range numbers {
						x := api.Ins{Op: op, O: o, D: d, S: s, Imm: imm}
						if _, err := guest.Encode(x); err == api.OK {
							do(x)
						}
					}
				}
			}
		}
	}
}

// ends: numbers at which something turns over, and those beside them.
func ends() []uint32 {
	return []uint32{0, 1, 2, 31, 32, 33, 0x7fffffff, 0x80000000, 0x80000001, 0xffffffe0, 0xfffffffe, 0xffffffff}
}

// kinds: how flags may be told; the last are none.
func kinds() []uint32 {
	return []uint32{0, 1, 2, 3, 4, 5, 6, 7, 8, 9, 10, 11, 12, 13, 0x80000000, 0xffffffff}
}

// told: slots 8 to 11 of all sorts.
func told(r *rand.Rand, c api.Context) api.Context {
	c[api.SlotK] = kinds()[r.Intn(len(kinds()))]
	c[api.SlotA] = ends()[r.Intn(len(ends()))]
	c[api.SlotB] = ends()[r.Intn(len(ends()))]
	c[api.SlotO] = r.Uint32() << r.Intn(30)
	return c
}

// contexts: registers that are places of data, numbers, places of the code
// itself, and ends of pages; flags of all sorts.
func contexts(r *rand.Rand) []api.Context {
	var data, numbers, own, edges api.Context
	for i := range 8 {
		data[i] = dataAt + 0x80 + 8*uint32(i)
		numbers[i] = ends()[r.Intn(len(ends()))]
		own[i] = codeAt + uint32(r.Intn(16))
		edges[i] = []uint32{dataAt, dataAt + 255, dataAt + 509, dataAt + 511, readAt, writeAt, noneAt, lastAt + 253, 0xfffffffd}[r.Intn(9)]
	}
	numbers[7] = dataAt + 0x80
	return []api.Context{told(r, data), told(r, numbers), told(r, own), told(r, edges)}
}

// P5.3, P5.4: each instruction by itself, and between two others.
func TestEachInstruction(t *testing.T) {
	r := rand.New(rand.NewSource(5))
	eachIns(func(x api.Ins) {
		alone := bytesOf(t, x)
		between := bytesOf(t, api.Ins{Op: api.Inc, D: 6}, x, api.Ins{Op: api.Alu, O: api.Adc, D: 5, S: 6})
		for _, c := range contexts(r) {
			what := fmt.Sprintf("%+v", x)
			code, most := between, 64
			if r.Intn(4) == 0 {
				code, most = alone, 1
			}
			agrees(t, what, laid(codeAt, code), codeAt, most, c)
		}
	})
}

// P5.3: flags of before that are told and not yet made, and what asks for them
// or leaves some of them as they are.
func TestEachKindOfFlags(t *testing.T) {
	var xs []api.Ins
	for o := range 16 {
		xs = append(xs, api.Ins{Op: api.Set, O: o, D: 3}, api.Ins{Op: api.Jcc8, O: o, Imm: 9}, api.Ins{Op: api.Alu, O: o, D: 1, S: 2})
	}
	xs = append(xs, api.Ins{Op: api.Pushf}, api.Ins{Op: api.Inc, D: 1}, api.Ins{Op: api.Dec, D: 1}, api.Ins{Op: api.Nop}, api.Ins{Op: api.Brk}, api.Ins{Op: api.Sys, Imm: 255})
	for _, x := range xs {
		code := bytesOf(t, x)
		for _, k := range kinds() {
			for _, by := range []uint32{0, 1, 31, 32} {
				c := odd()
				c[2], c[7] = by, dataAt+0x80
				c[api.SlotK] = k
				for i, a := range []uint32{0, 1, 0x80000000, 0xffffffff} {
					c[api.SlotA], c[api.SlotB] = a, []uint32{0xffffffff, 32, 1, 0x80000001}[i]
					c[api.SlotO] = []uint32{0xfffffff6, 9, 4, 0x1b}[(i+int(k)+int(by))%4]
					agrees(t, fmt.Sprintf("%+v", x), laid(codeAt, code), codeAt, 1, c)
				}
			}
		}
	}
}

// By hand: what comes of some instructions, each with flags of before FC and FV.
func TestByHand(t *testing.T) {
	const data = dataAt + 0x10
	for _, x := range []struct {
		what   string
		code   []byte
		r1, r2 uint32 // ahead
		w1, w2 uint32 // behind
		f      uint32
	}{
		{"adc", []byte{0x71, 0x12}, 0xffffffff, 0, 0, 0, 5},
		{"sbb", []byte{0x73, 0x12}, 0, 0xffffffff, 0, 0xffffffff, 5},
		{"shl by 0", []byte{0x79, 0x12}, 7, 0, 7, 0, 12},
		{"shl by 32", []byte{0x79, 0x12}, 7, 32, 7, 32, 12},
		{"shl by 31", []byte{0x79, 0x12}, 3, 31, 0x80000000, 31, 6},
		{"shr by 33", []byte{0x7a, 0x12}, 3, 33, 1, 33, 4},
		{"sar by 31", []byte{0x7b, 0x12}, 0x80000000, 31, 0xffffffff, 31, 2},
		{"rol by 1", []byte{0x7c, 0x12}, 0x80000001, 1, 3, 1, 12},
		{"rol by 4", []byte{0x7c, 0x12}, 1, 4, 16, 4, 8},
		{"mul", []byte{0x7d, 0x12}, 0x10000, 0x10000, 0, 0x10000, 13},
		{"divu", []byte{0x7e, 0x12}, 7, 8, 0, 8, 1},
		{"remu", []byte{0x7f, 0x12}, 0xffffffff, 0xfffffff0, 15, 0xfffffff0, 0},
		{"cmp", []byte{0x77, 0x12}, 5, 7, 5, 7, 6},
		{"test", []byte{0x78, 0x12}, 5, 2, 5, 2, 1},
		{"inc", []byte{0x49}, 0xffffffff, 9, 0, 9, 5},
		{"dec", []byte{0x51}, 0x80000000, 9, 0x7fffffff, 9, 12},
		{"neg", []byte{0x59}, 1, 9, 0xffffffff, 9, 6},
		{"neg of the least", []byte{0x59}, 0x80000000, 9, 0x80000000, 9, 14},
		{"not", []byte{0x61}, 0xf, 9, 0xfffffff0, 9, 12},
		{"set 2", []byte{0x68, 0x21}, 9, 9, 1, 9, 12},
		{"set 3", []byte{0x68, 0x31}, 9, 9, 0, 9, 12},
		{"lea", []byte{0x6a, 0x12, 0xff}, 9, 0, 0xffffffff, 0, 12},
		{"load of a byte with its sign", []byte{0xa1, 0x12, 3}, 9, data, 0xffffff84, data, 12},
		{"load of two bytes", []byte{0xa2, 0x12, 2}, 9, data, 0x8403, data, 12},
		{"xadd", []byte{0x6c, 0x12, 0}, 0x7bfcfdff, data, 0x84030201, data, 5},
		{"alub add of itself", []byte{0x90, 1, 0x80}, 0x80, 9, 0, 9, 5},
		{"alu sub of itself", []byte{0x72, 0x11}, 0x80, 9, 0, 9, 1},
	} {
		m := laid(codeAt, x.code)
		m.Poke(data, []byte{1, 2, 3, 0x84})
		c := ir.Enter(api.State{R: [8]uint32{0, x.r1, x.r2, 3, 4, 5, 6, 7}, F: 12})
		d, e, err := ir.Eval(lift.Block(m, codeAt, 1), c, m)
		next := uint32(codeAt + len(x.code))
		want := api.State{R: [8]uint32{0, x.w1, x.w2, 3, 4, 5, 6, 7}, F: x.f, PC: next}
		if got := ir.State(d, e.PC); err != api.OK || got != want || e != (api.Exit{PC: next, N: 1}) {
			t.Errorf("P5.3 %s: %x, %+v, want %x", x.what, got, e, want)
		}
	}
}

// By hand: what stores, calls and pops, where registers are the same.
func TestMemoryByHand(t *testing.T) {
	const top = dataAt + 0x40
	const at = dataAt + 0x44
	for _, x := range []struct {
		what   string
		code   []byte
		r      [8]uint32 // ahead, beside R7
		w      [8]uint32 // behind
		f      uint32
		addr   int
		stored []byte
		pc     uint32
	}{
		{"push R7", []byte{0x37}, [8]uint32{7: at}, [8]uint32{7: top}, 10, top, []byte{0x44, 3, 0, 0}, codeAt + 1},
		{"pop R7", []byte{0x3f}, [8]uint32{7: top}, [8]uint32{7: 0x04030201}, 10, top, []byte{1, 2, 3, 4}, codeAt + 1},
		{"pop R1", []byte{0x39}, [8]uint32{7: top}, [8]uint32{1: 0x04030201, 7: at}, 10, top, []byte{1, 2, 3, 4}, codeAt + 1},
		{"pushf", []byte{3}, [8]uint32{7: at}, [8]uint32{7: top}, 10, top, []byte{10, 0, 0, 0}, codeAt + 1},
		{"popf", []byte{4}, [8]uint32{7: top}, [8]uint32{7: at}, 1, top, []byte{1, 2, 3, 4}, codeAt + 1},
		{"call", []byte{8, 0, 1, 0, 0}, [8]uint32{7: at}, [8]uint32{7: top}, 10, top, []byte{5, 1, 0, 0}, codeAt + 0x105},
		{"callr R7", []byte{10, 7}, [8]uint32{7: at}, [8]uint32{7: top}, 10, top, []byte{2, 1, 0, 0}, at},
		{"callr R2", []byte{10, 2}, [8]uint32{2: 9, 7: at}, [8]uint32{2: 9, 7: top}, 10, top, []byte{2, 1, 0, 0}, 9},
		{"ret", []byte{2}, [8]uint32{7: top}, [8]uint32{7: at}, 10, top, []byte{1, 2, 3, 4}, 0x04030201},
		{"jmpm", []byte{11, 2, 0xff}, [8]uint32{2: top + 1}, [8]uint32{2: top + 1}, 10, top, []byte{1, 2, 3, 4}, 0x04030201},
		{"jmpr R7", []byte{9, 7}, [8]uint32{7: 0xfffffff0}, [8]uint32{7: 0xfffffff0}, 10, top, []byte{1, 2, 3, 4}, 0xfffffff0},
		{"xchg of itself", []byte{0x6b, 0x77, 0xfc}, [8]uint32{7: at}, [8]uint32{7: 0x04030201}, 10, top, []byte{0x44, 3, 0, 0}, codeAt + 3},
		{"xadd of itself", []byte{0x6c, 0x77, 0xfc}, [8]uint32{7: at}, [8]uint32{7: 0x04030201}, 0, top, []byte{0x45, 5, 3, 4}, codeAt + 3},
		{"cas of the same", []byte{0x6d, 0x12, 0}, [8]uint32{0: 0x04030201, 1: 9, 2: top}, [8]uint32{0: 0x04030201, 1: 9, 2: top}, 1, top, []byte{9, 0, 0, 0}, codeAt + 3},
		{"cas of another", []byte{0x6d, 0x12, 0}, [8]uint32{0: 1, 1: 9, 2: top}, [8]uint32{0: 0x04030201, 1: 9, 2: top}, 6, top, []byte{1, 2, 3, 4}, codeAt + 3},
		{"cas of R0 by itself", []byte{0x6d, 0x00, 0}, [8]uint32{0: top}, [8]uint32{0: 0x04030201}, 6, top, []byte{1, 2, 3, 4}, codeAt + 3},
		{"load R7 by itself", []byte{0xa4, 0x77, 0}, [8]uint32{7: top}, [8]uint32{7: 0x04030201}, 10, top, []byte{1, 2, 3, 4}, codeAt + 3},
		{"store R7 by itself", []byte{0xa7, 0x77, 0xfc}, [8]uint32{7: at}, [8]uint32{7: at}, 10, top, []byte{0x44, 3, 0, 0}, codeAt + 3},
		{"store of a byte", []byte{0xa5, 0x12, 1}, [8]uint32{1: 0xfffffff9, 2: top}, [8]uint32{1: 0xfffffff9, 2: top}, 10, top, []byte{1, 0xf9, 3, 4}, codeAt + 3},
		{"store of two bytes", []byte{0xa6, 0x12, 2}, [8]uint32{1: 0xffff8879, 2: top}, [8]uint32{1: 0xffff8879, 2: top}, 10, top, []byte{1, 2, 0x79, 0x88}, codeAt + 3},
	} {
		m := laid(codeAt, x.code)
		m.Poke(top, []byte{1, 2, 3, 4})
		d, e, err := ir.Eval(lift.Block(m, codeAt, 1), ir.Enter(api.State{R: x.r, F: 10}), m)
		want := api.State{R: x.w, F: x.f, PC: x.pc}
		if got := ir.State(d, e.PC); err != api.OK || got != want || e != (api.Exit{PC: x.pc, N: 1}) {
			t.Errorf("P5.3 %s: %x, %+v, want %x", x.what, got, e, want)
		}
		if b, _ := m.Peek(x.addr, 4); string(b) != string(x.stored) {
			t.Errorf("P5.3 %s: %x lie there, want %x", x.what, b, x.stored)
		}
	}
}

// Jumps on each condition, by each flags: to where, and N.
func TestConditions(t *testing.T) {
	for o := range 16 {
		for f := range uint32(16) {
			for _, code := range [][]byte{{0, byte(0x10 + o), 0xfd}, {0, byte(0x20 + o), 0xfa, 0xff, 0xff, 0xff}} {
				m := laid(codeAt, code)
				d, x, _ := ir.Eval(lift.Block(m, codeAt, 9), ir.Enter(api.State{F: f}), m)
				want := api.Exit{PC: codeAt + uint32(len(code)), N: 2}
				if interp.Holds(o, f) {
					want.PC = codeAt
				}
				if x != want || ir.State(d, 0) != (api.State{F: f}) {
					t.Errorf("P5.3 condition %d of %d: %+v, %v, want %+v", o, f, x, d, want)
				}
			}
		}
	}
}

// byOp: all instructions of eachIns, by their Op.
func byOp() [32][]api.Ins {
	var xs [32][]api.Ins
	eachIns(func(x api.Ins) { xs[x.Op] = append(xs[x.Op], x) })
	return xs
}

// chanceCode: instructions in a row, of each Op as often; few that end a block.
func chanceCode(r *rand.Rand, t *testing.T, xs [32][]api.Ins, n int) []byte {
	var code []byte
	for range n {
		op := r.Intn(32)
		if endsBlock(op) && r.Intn(5) > 0 {
			op = 14 + r.Intn(18)
		}
		code = append(code, bytesOf(t, xs[op][r.Intn(len(xs[op]))])...)
	}
	return code
}

// P5.1 to P5.4 of blocks by chance, at places by chance, near ends of pages too.
func TestChance(t *testing.T) {
	r := rand.New(rand.NewSource(55))
	xs := byOp()
	left := map[string]int{}
	for range 6000 {
		at := []int{codeAt, codeAt + 200, codeAt + 480, lastAt, lastAt + 200, runAt + 100}[r.Intn(6)] + r.Intn(30)
		code := chanceCode(r, t, xs, 1+r.Intn(30))
		if r.Intn(6) == 0 {
			code[r.Intn(len(code))] = byte(r.Intn(256))
		}
		if at+len(code) > api.MemSize {
			code = code[:api.MemSize-at]
		}
		cs := contexts(r)
		c := cs[r.Intn(3)]
		for i := range 8 {
			if r.Intn(3) == 0 {
				c[i] = cs[r.Intn(4)][i]
			}
		}
		if r.Intn(2) == 0 {
			c[7] = dataAt + 0x100
		}
		marks := r.Intn(3)
		m := laid(at, code)
		m.Mark(dataPage, marks == 1)
		m.Mark(codePage, marks == 2)
		_, x := agrees(t, fmt.Sprintf("%x at %x", code, at), m, uint32(at), []int{1, 3, 64}[r.Intn(3)], c)
		left[fmt.Sprint(x.Stop.Kind, " ", min(x.N, 3))]++
	}
	for _, want := range []string{"0 1", "0 2", "0 3", "1 3", "2 3", "3 0", "5 0", "5 2", "5 3", "6 0", "6 2", "6 3", "7 0", "7 3"} {
		if left[want] == 0 {
			t.Errorf("no block by chance was left so: %s", want)
		}
	}
}
