package interp_test

import (
	"crossgrain/api"
	"crossgrain/guest"
)

// A slow machine of the chapter's words, that shares no code with the package:
// sums are those of 64 bits, bits are moved one by one, bytes are asked one by one.

const (
	z, n, c, v = api.FZ, api.FN, api.FC, api.FV
)

func flag(on bool, bit uint32) uint32 {
	if on {
		return bit
	}
	return 0
}

// slowOf: FZ and FN of a value.
func slowOf(x uint32) uint32 { return flag(x == 0, z) + flag(x >= 1<<31, n) }

// slowValue: the value of a k, and its flags.
func slowValue(k int, a, b, old uint32) (uint32, uint32) {
	old %= 16
	in := int64(0)
	if (k == 2 || k == 4) && old&c != 0 {
		in = 1
	}
	if k == 11 || k == 12 {
		b = 1
	}
	past := func(x int64) uint32 { return flag(x != int64(int32(x)), v) }
	switch k {
	case 1, 2, 11:
		wide, signed := int64(a)+int64(b)+in, int64(int32(a))+int64(int32(b))+in
		x := uint32(wide)
		if k == 11 {
			return x, slowOf(x) + past(signed) + old&c
		}
		return x, slowOf(x) + past(signed) + flag(wide >= 1<<32, c)
	case 3, 4, 12:
		wide, signed := int64(a)-int64(b)-in, int64(int32(a))-int64(int32(b))-in
		x := uint32(wide)
		if k == 12 {
			return x, slowOf(x) + past(signed) + old&c
		}
		return x, slowOf(x) + past(signed) + flag(wide < 0, c)
	case 5:
		return a, slowOf(a)
	case 6, 7, 8, 9:
		return slowMove(k, a, b%32, old)
	case 10:
		wide := uint64(a) * uint64(b)
		x := uint32(wide)
		return x, slowOf(x) + flag(wide>>32 != 0, c) + flag(wide>>32 != 0, v)
	}
	return a, old
}

// slowMove: one place at a time.
func slowMove(k int, a, by, old uint32) (uint32, uint32) {
	if by == 0 {
		return a, old
	}
	out := uint32(0)
	for range by {
		high, low := a/(1<<31), a%2
		switch k {
		case 6:
			out, a = high, a*2
		case 7:
			out, a = low, a/2
		case 8:
			out, a = low, a/2+high*(1<<31)
		case 9:
			a = a*2 + high
			out = a % 2
		}
	}
	if k == 9 {
		return a, old&(z|n|v) + out*c
	}
	return a, slowOf(a) + out*c
}

func slowHolds(cond int, f uint32) bool {
	fz, fn, fc, fv := f&z != 0, f&n != 0, f&c != 0, f&v != 0
	switch cond {
	case 0:
		return fv
	case 2:
		return fc
	case 4:
		return fz
	case 6:
		return fc || fz
	case 8:
		return fn
	case 10:
		return fn != fv
	case 12:
		return fz || fn != fv
	case 14:
		return true
	case 1, 3, 5, 7, 9, 11, 13, 15:
		return !slowHolds(cond-1, f)
	}
	return false
}

func slowReckon(o int, a, b, f uint32) (uint32, uint32, bool) {
	log := func(x uint32) (uint32, uint32, bool) { return x, slowOf(x), true }
	byK := func(k int) (uint32, uint32, bool) {
		x, g := slowValue(k, a, b, f)
		return x, g, true
	}
	switch o {
	case 0, 1, 2, 3:
		return byK(o + 1)
	case 4:
		return log(a & b)
	case 5:
		return log(a | b)
	case 6:
		return log(a ^ b)
	case 7:
		_, g := slowValue(3, a, b, f)
		return a, g, true
	case 8:
		return a, slowOf(a & b), true
	case 9, 10, 11, 12:
		return byK(o - 3)
	case 13:
		return byK(10)
	case 14, 15:
		if b == 0 {
			return 0, 0, false
		}
		if o == 14 {
			return log(a / b)
		}
		return log(a - a/b*b)
	}
	return 0, 0, false
}

// slow is a memory of the second chapter, and what is stopped by.
type slow struct {
	bytes   [api.MemSize]byte
	rights  [api.Pages]int
	changed map[int]bool
	s       api.State
	stop    api.Stop
}

// may: the first byte that may not be used stops, unless something did already.
func (w *slow) may(a uint32, count, right, kind int) bool {
	for i := range count {
		at := a + uint32(i)
		if w.stop.Kind == api.Going && (at >= api.MemSize || w.rights[at/api.PageSize]&right == 0) {
			w.stop = api.Stop{Kind: kind, Arg: at}
		}
	}
	return w.stop.Kind == api.Going
}

func (w *slow) load(a uint32, count int) uint32 {
	x := uint32(0)
	if w.may(a, count, api.Read, api.StopLoad) {
		for i := count - 1; i >= 0; i-- {
			x = x*256 + uint32(w.bytes[a+uint32(i)])
		}
	}
	return x
}

func (w *slow) store(a uint32, count int, x uint32) {
	if !w.may(a, count, api.Write, api.StopStore) {
		return
	}
	for i := range count {
		at := a + uint32(i)
		w.bytes[at] = byte(x)
		w.changed[int(at/api.PageSize)] = true
		x /= 256
	}
}

func (w *slow) push(x uint32) {
	w.store(w.s.R[7]-4, 4, x)
	w.s.R[7] -= 4
}

func (w *slow) pop() uint32 {
	x := w.load(w.s.R[7], 4)
	w.s.R[7] += 4
	return x
}

// step: one instruction; what a stop undoes is undone at its end.
func (w *slow) step() {
	w.stop = api.Stop{}
	w.s.F %= 16
	was := w.s
	if !w.may(was.PC, 1, api.Run, api.StopFetch) {
		return
	}
	size := guest.Size(w.bytes[was.PC])
	if !w.may(was.PC, size, api.Run, api.StopFetch) {
		return
	}
	x, _, err := guest.Decode(w.bytes[was.PC : int(was.PC)+size])
	if err != api.OK {
		w.stop.Kind = api.StopOp
		return
	}
	w.s.PC += uint32(size)
	w.do(x)
	if w.stop.Kind != api.Going && w.stop.Kind != api.StopSys {
		w.s = was
	}
}

func (w *slow) do(x api.Ins) {
	s := &w.s
	d, r, next := s.R[x.D], s.R[x.S], s.PC
	at := r + x.Imm
	switch x.Op {
	case api.Brk:
		w.stop.Kind = api.StopBrk
	case api.Sys:
		w.stop = api.Stop{Kind: api.StopSys, Arg: x.Imm}
	case api.Jmp8, api.Jmp:
		s.PC = next + x.Imm
	case api.Jcc8, api.Jcc:
		if slowHolds(x.O, s.F) {
			s.PC = next + x.Imm
		}
	case api.JmpR:
		s.PC = r
	case api.JmpM:
		s.PC = w.load(at, 4)
	case api.Push:
		w.push(r)
	case api.Pop:
		got := w.pop()
		s.R[x.D] = got
	case api.Call:
		w.push(next)
		s.PC = next + x.Imm
	case api.CallR:
		w.push(next)
		s.PC = r
	case api.Ret:
		s.PC = w.pop()
	case api.Pushf:
		w.push(s.F)
	case api.Popf:
		s.F = w.pop() % 16
	case api.Alu, api.AluI, api.AluB:
		b := x.Imm
		if x.Op == api.Alu {
			b = r
		}
		got, f, ok := slowReckon(x.O, d, b, s.F)
		if !ok {
			w.stop.Kind = api.StopDivide
		}
		s.R[x.D], s.F = got, f
	default:
		w.rest(x, d, r, at)
	}
}

func (w *slow) rest(x api.Ins, d, r, at uint32) {
	s := &w.s
	switch x.Op {
	case api.MovI:
		s.R[x.D] = x.Imm
	case api.Mov:
		s.R[x.D] = r
	case api.Lea:
		s.R[x.D] = at
	case api.Not:
		s.R[x.D] = 0xffffffff - d
	case api.Inc:
		s.R[x.D], s.F = slowValue(11, d, 0, s.F)
	case api.Dec:
		s.R[x.D], s.F = slowValue(12, d, 0, s.F)
	case api.Neg:
		s.R[x.D], s.F = slowValue(3, 0, d, s.F)
	case api.Set:
		s.R[x.D] = flag(slowHolds(x.O, s.F), 1)
	case api.Load:
		switch x.O {
		case 0:
			s.R[x.D] = w.load(at, 1)
		case 1:
			s.R[x.D] = uint32(int8(w.load(at, 1)))
		case 2:
			s.R[x.D] = w.load(at, 2)
		case 3:
			s.R[x.D] = uint32(int16(w.load(at, 2)))
		case 4:
			s.R[x.D] = w.load(at, 4)
		}
	case api.Store:
		w.store(at, 1<<x.O, d)
	case api.Xchg:
		got := w.load(at, 4)
		w.store(at, 4, d)
		s.R[x.D] = got
	case api.Xadd:
		got := w.load(at, 4)
		w.store(at, 4, got+d)
		_, s.F = slowValue(1, got, d, s.F)
		s.R[x.D] = got
	case api.Cas:
		got := w.load(at, 4)
		_, s.F = slowValue(3, s.R[0], got, s.F)
		if got == s.R[0] {
			w.store(at, 4, d)
		} else {
			w.store(at, 4, got)
			s.R[0] = got
		}
	}
}
