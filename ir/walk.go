package ir

import (
	"crossgrain/access"
	"crossgrain/api"
	"crossgrain/mem"
	"crossgrain/value"
)

// walk is a block under way: what Check refuses is not walked.
type walk struct {
	c      api.Context
	m      *mem.Memory
	values []uint32 // by the number of the operation that gives them
}

// leave goes through operations, up to where the block is left: at the last
// one at the latest.
func (w *walk) leave(ops []api.Op) api.Exit {
	for i, o := range ops {
		if x, left := w.do(i, o); left {
			return x
		}
	}
	return api.Exit{}
}

// do: one operation; the exit counts only where the block is left by it.
func (w *walk) do(i int, o api.Op) (api.Exit, bool) {
	x := api.Exit{PC: o.K, N: o.N}
	a := w.values[o.A] // of what takes no A it is the first value, and not used
	switch o.Kind {
	case api.OpPut:
		w.c[o.W] = a
		return x, false
	case api.OpLoad:
		w.values[i], x.Stop = access.Load(w.m, o.W, a)
		return x, x.Stop.Kind != api.Going
	case api.OpStore:
		x.Stop = access.Store(w.m, o.W, a, w.values[o.B])
		return x, x.Stop.Kind != api.Going
	case api.OpWatch:
		return x, w.m.Touched()
	case api.OpIf:
		return x, a != 0
	case api.OpStopIf:
		x.Stop.Kind = o.W
		return x, a != 0
	case api.OpStop:
		x.Stop = api.Stop{Kind: o.W, Arg: uint32(o.B)}
		return x, true
	case api.OpGoto:
		return x, true
	case api.OpGotoT:
		x.PC = a
		return x, true
	}
	w.values[i] = w.value(o)
	return x, false
}

// value: of an operation that only gives one.
func (w *walk) value(o api.Op) uint32 {
	switch o.Kind {
	case api.OpGet:
		return w.c[o.W]
	case api.OpNow:
		return flags(w.c)
	}
	return value.Of(o, w.values[o.A], w.values[o.B], w.values[o.C])
}
