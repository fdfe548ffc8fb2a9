package lift

import "crossgrain/api"

func (u *turn) jump() {
	switch x := u.x; x.Op {
	case api.Jmp8, api.Jmp:
		u.goes(u.next + x.Imm)
	case api.Jcc8, api.Jcc:
		u.lay(api.Op{Kind: api.OpIf, A: u.holds(x.O), K: u.next + x.Imm, N: u.done + 1})
		u.goes(u.next)
	case api.JmpR:
		u.goesTo(u.read(x.S))
	case api.JmpM:
		u.goesTo(u.load(loadWord, u.at()))
	}
}

// pushes: what is pushed and where it goes on are read ahead of the push, for S may be R7.
func (u *turn) pushes() {
	switch x := u.x; x.Op {
	case api.Push:
		u.push(u.read(x.S))
		u.watch()
	case api.Pushf:
		u.push(u.now())
		u.watch()
	case api.Call:
		u.push(u.number(u.next))
		u.goes(u.next + x.Imm)
	case api.CallR:
		to := u.read(x.S)
		u.push(u.number(u.next))
		u.goesTo(to)
	}
}

func (u *turn) push(v int) {
	at := u.bin(api.BSub, u.read(stackReg), u.number(word))
	u.store(storeWord, at, v)
	u.put(stackReg, at)
}

// pops: R7 has moved on ahead of D's register, which may be R7.
func (u *turn) pops() {
	at := u.read(stackReg)
	v := u.load(loadWord, at)
	u.put(stackReg, u.bin(api.BAdd, at, u.number(word)))
	switch u.x.Op {
	case api.Pop:
		u.put(u.x.D, v)
	case api.Popf:
		u.put(api.SlotK, u.number(api.FOld))
		u.put(api.SlotO, v)
	case api.Ret:
		u.goesTo(v)
	}
}

// set: what reads and writes registers alone.
func (u *turn) set() {
	switch x := u.x; x.Op {
	case api.MovI:
		u.put(x.D, u.number(x.Imm))
	case api.Mov:
		u.put(x.D, u.read(x.S))
	case api.Lea:
		u.put(x.D, u.at())
	case api.Not:
		u.put(x.D, u.un(api.UNot, u.read(x.D)))
	case api.Inc:
		u.count(api.BAdd, api.FInc)
	case api.Dec:
		u.count(api.BSub, api.FDec)
	case api.Neg:
		zero, d := u.number(0), u.read(x.D)
		u.put(x.D, u.bin(api.BSub, zero, d))
		u.tell(api.FSub, zero, d)
	case api.Set:
		u.put(x.D, u.holds(x.O))
	}
}

// count: D's register by 1; the carry is that of before.
func (u *turn) count(w, k int) {
	d, one, old := u.read(u.x.D), u.number(1), u.now()
	u.put(u.x.D, u.bin(w, d, one))
	u.tell(k, d, one, old)
}

// swaps: what loads and then stores at one place.
func (u *turn) swaps() {
	at := u.at()
	was := u.load(loadWord, at)
	d := u.read(u.x.D)
	switch u.x.Op {
	case api.Xchg:
		u.store(storeWord, at, d)
		u.put(u.x.D, was)
	case api.Xadd:
		u.store(storeWord, at, u.bin(api.BAdd, was, d))
		u.put(u.x.D, was)
		u.tell(api.FAdd, was, d)
	case api.Cas:
		r0 := u.read(0)
		same := u.bin(api.BEq, r0, was)
		u.store(storeWord, at, u.lay(api.Op{Kind: api.OpSel, A: same, B: d, C: was}))
		// Where they are the same R0 is what was loaded already.
		u.put(0, was)
		u.tell(api.FSub, r0, was)
	}
}
