package interp

import (
	"crossgrain/api"
	"crossgrain/mem"
)

// stackReg is the register that has the stack's place.
const stackReg = 7

// word is how many bytes a register has.
const word = 4

// turn is one instruction under way. Its PC is the place behind the instruction.
// Each instruction stores once at the most, and nothing stops behind that.
type turn struct {
	m *mem.Memory
	s api.State
}

// do: what an instruction does. Behind a stop, but that of sys, the turn's state is not used.
func (u *turn) do(x api.Ins) api.Stop {
	switch x.Op {
	case api.Brk:
		return api.Stop{Kind: api.StopBrk}
	case api.Sys:
		return api.Stop{Kind: api.StopSys, Arg: x.Imm}
	case api.Jmp8, api.Jmp, api.Jcc8, api.Jcc, api.JmpR, api.JmpM:
		return u.jump(x)
	case api.Push, api.Pushf, api.Call, api.CallR:
		return u.pushes(x)
	case api.Pop, api.Popf, api.Ret:
		return u.pops(x)
	case api.Alu:
		return u.reckon(x, u.s.R[x.S])
	case api.AluI, api.AluB:
		return u.reckon(x, x.Imm)
	case api.Load:
		return u.loads(x)
	case api.Store:
		return u.stores(x)
	case api.Xchg, api.Xadd, api.Cas:
		return u.swaps(x)
	default:
		u.set(x)
	}
	return api.Stop{}
}

// at: the address that an instruction tells.
func (u *turn) at(x api.Ins) uint32 { return u.s.R[x.S] + x.Imm }

func (u *turn) jump(x api.Ins) api.Stop {
	var stop api.Stop
	switch x.Op {
	case api.Jmp8, api.Jmp:
		u.s.PC += x.Imm
	case api.Jcc8, api.Jcc:
		if Holds(x.O, u.s.F) {
			u.s.PC += x.Imm
		}
	case api.JmpR:
		u.s.PC = u.s.R[x.S]
	case api.JmpM:
		u.s.PC, stop = u.m.Load(u.at(x), word)
	}
	return stop
}

// set: what reads and writes registers alone.
func (u *turn) set(x api.Ins) {
	d := &u.s.R[x.D]
	switch x.Op {
	case api.MovI:
		*d = x.Imm
	case api.Mov:
		*d = u.s.R[x.S]
	case api.Lea:
		*d = u.at(x)
	case api.Not:
		*d = ^*d
	case api.Inc:
		*d, u.s.F = work(api.FInc, *d, 0, u.s.F)
	case api.Dec:
		*d, u.s.F = work(api.FDec, *d, 0, u.s.F)
	case api.Neg:
		*d, u.s.F = work(api.FSub, 0, *d, u.s.F)
	case api.Set:
		*d = 0
		if Holds(x.O, u.s.F) {
			*d = 1
		}
	}
}

func (u *turn) reckon(x api.Ins, b uint32) api.Stop {
	v, f, ok := Reckon(x.O, u.s.R[x.D], b, u.s.F)
	if !ok {
		return api.Stop{Kind: api.StopDivide}
	}
	u.s.R[x.D], u.s.F = v, f
	return api.Stop{}
}
