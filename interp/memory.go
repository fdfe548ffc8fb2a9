package interp

import (
	"crossgrain/access"
	"crossgrain/api"
)

// pushes: what is pushed and where it goes on are taken ahead of the push, for S may be R7.
func (u *turn) pushes(x api.Ins) api.Stop {
	v, pc := u.s.R[x.S], u.s.PC
	switch x.Op {
	case api.Pushf:
		v = u.s.F
	case api.Call:
		v, pc = u.s.PC, u.s.PC+x.Imm
	case api.CallR:
		v, pc = u.s.PC, u.s.R[x.S]
	}
	u.s.R[stackReg] -= word
	u.s.PC = pc
	return u.m.Store(u.s.R[stackReg], word, v)
}

// pops: R7 has moved on ahead of D's register, which may be R7.
func (u *turn) pops(x api.Ins) api.Stop {
	v, stop := u.m.Load(u.s.R[stackReg], word)
	u.s.R[stackReg] += word
	switch x.Op {
	case api.Pop:
		u.s.R[x.D] = v
	case api.Popf:
		u.s.F = v & four
	case api.Ret:
		u.s.PC = v
	}
	return stop
}

func (u *turn) loads(x api.Ins) api.Stop {
	v, stop := access.Load(u.m, x.O, u.at(x))
	u.s.R[x.D] = v
	return stop
}

func (u *turn) stores(x api.Ins) api.Stop {
	return access.Store(u.m, x.O, u.at(x), u.s.R[x.D])
}

// swaps: what loads and then stores at one place. Its store is done even where
// the number stays as it was: the page must have the right, and is changed.
func (u *turn) swaps(x api.Ins) api.Stop {
	at := u.at(x)
	was, stop := u.m.Load(at, word)
	if stop.Kind != api.Going {
		return stop
	}
	v := u.s.R[x.D]
	switch x.Op {
	case api.Xchg:
		u.s.R[x.D] = was
	case api.Xadd:
		v, u.s.F = work(api.FAdd, was, v, u.s.F)
		u.s.R[x.D] = was
	case api.Cas:
		u.s.F = Flags(api.FSub, u.s.R[0], was, u.s.F)
		if was != u.s.R[0] {
			u.s.R[0], v = was, was
		}
	}
	return u.m.Store(at, word, v)
}
