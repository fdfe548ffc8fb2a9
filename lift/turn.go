package lift

import "crossgrain/api"

// stackReg is the register that has the stack's place.
const stackReg = 7

// word is how many bytes a register has.
const word = 4

// W of the operations that load and store as many.
const (
	loadWord  = 4
	storeWord = 2
)

// turn is one instruction under way. What may stop is laid ahead of all that
// changes the context, for a stop leaves the state as it was ahead of the
// instruction; and what watches is laid behind it.
type turn struct {
	lay      func(o api.Op) int // an operation behind those that are there: its number
	read     func(slot int) int // what a slot has: the number of the operation that gives it
	x        api.Ins
	pc, next uint32 // its place, and the one behind it
	done     int    // how many instructions are ahead of it
}

// do: what an instruction does.
func (u *turn) do() {
	switch x := u.x; x.Op {
	case api.Brk:
		u.lay(api.Op{Kind: api.OpStop, W: api.StopBrk, K: u.pc, N: u.done})
	case api.Sys:
		u.lay(api.Op{Kind: api.OpStop, W: api.StopSys, B: int(x.Imm), K: u.next, N: u.done + 1})
	case api.Jmp8, api.Jmp, api.Jcc8, api.Jcc, api.JmpR, api.JmpM:
		u.jump()
	case api.Push, api.Pushf, api.Call, api.CallR:
		u.pushes()
	case api.Pop, api.Popf, api.Ret:
		u.pops()
	case api.Alu:
		u.reckon(u.read(x.S))
	case api.AluI, api.AluB:
		u.reckon(u.number(x.Imm))
	case api.Load:
		u.put(x.D, u.load(x.O, u.at()))
	case api.Store:
		u.store(x.O, u.at(), u.read(x.D))
		u.watch()
	case api.Xchg, api.Xadd, api.Cas:
		u.swaps()
		u.watch()
	default:
		u.set()
	}
}

func (u *turn) number(k uint32) int { return u.lay(api.Op{Kind: api.OpConst, K: k}) }

func (u *turn) put(slot, v int) { u.lay(api.Op{Kind: api.OpPut, W: slot, A: v}) }

func (u *turn) bin(w, a, b int) int { return u.lay(api.Op{Kind: api.OpBin, W: w, A: a, B: b}) }

func (u *turn) un(w, a int) int { return u.lay(api.Op{Kind: api.OpUn, W: w, A: a}) }

// now: the flags as they are ahead of the instruction.
func (u *turn) now() int { return u.lay(api.Op{Kind: api.OpNow}) }

// holds: 1 or 0 of a condition.
func (u *turn) holds(c int) int { return u.lay(api.Op{Kind: api.OpCond, W: c, A: u.now()}) }

// at: the address that the instruction tells.
func (u *turn) at() int { return u.bin(api.BAdd, u.read(u.x.S), u.number(u.x.Imm)) }

func (u *turn) load(w, at int) int {
	return u.lay(api.Op{Kind: api.OpLoad, W: w, A: at, K: u.pc, N: u.done})
}

func (u *turn) store(w, at, v int) {
	u.lay(api.Op{Kind: api.OpStore, W: w, A: at, B: v, K: u.pc, N: u.done})
}

// watch: what was stored may be the bytes of the block itself.
func (u *turn) watch() { u.lay(api.Op{Kind: api.OpWatch, K: u.next, N: u.done + 1}) }

func (u *turn) goes(pc uint32) { u.lay(api.Op{Kind: api.OpGoto, K: pc, N: u.done + 1}) }

// goesTo: to the place that a value is.
func (u *turn) goesTo(v int) { u.lay(api.Op{Kind: api.OpGotoT, A: v, N: u.done + 1}) }

// tell: flags are told by how they are made, and of what: the slots A, B and O,
// of which the last may be left as they are where they do not count.
func (u *turn) tell(k int, of ...int) {
	u.put(api.SlotK, u.number(uint32(k)))
	for i, v := range of {
		u.put(api.SlotA+i, v)
	}
}
