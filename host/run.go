package host

import (
	"crossgrain/access"
	"crossgrain/api"
	"crossgrain/ir"
	"crossgrain/mem"
	"crossgrain/value"
)

// fuel is how many instructions of the host are done ahead of the last enter
// at the most. Nothing leads back but to an enter, so that each run ends.
const fuel = 1 << 20

// registers is how many the host has.
const registers = 1 << regBits

// cell is a register or a spill. An enter need not clear them: what was written
// since then is told by how many enters were done at that time.
type cell struct {
	number uint32
	enters int32
}

// run is code under way.
type run struct {
	w      []uint32
	c      api.Context
	m      *mem.Memory
	left   int
	table  []api.Entry
	next   int   // the word at which it goes on
	done   int   // guest instructions
	count  int   // instructions of the host that are done
	enters int32 // those of them that are enters
	regs   [registers]cell
	spills [api.MaxSpill]cell
}

// leave goes from a word on, up to where it is left.
func (r *run) leave(at int) api.Left {
	if !r.isEnter(at) {
		return api.Left{Kind: api.LeftStuck, At: at}
	}
	for {
		var i found
		if i.decode(r.w, at) != api.OK {
			return api.Left{Kind: api.LeftStuck, At: at}
		}
		r.next = at + i.words
		if out := r.do(&i.x, &i.f); out.Kind != 0 {
			out.At = at
			return out
		}
		r.count++
		at = r.next
	}
}

func (r *run) isEnter(at int) bool {
	var i found
	return i.decode(r.w, at) == api.OK && i.x.Op == api.HEnter
}

// taken is what an instruction reads.
type taken struct{ a, b, c, d uint32 }

// do: one instruction. Its answer has a kind only where it is left by it.
func (r *run) do(x *api.Code, f *format) api.Left {
	stuck := false
	read := func(from *cell) uint32 {
		stuck = stuck || from.enters != r.enters
		return from.number
	}
	take := func(field uint16, register int) uint32 {
		if f.has&field == 0 {
			return 0
		}
		return read(&r.regs[register])
	}
	v := taken{take(fieldA, x.A), take(fieldB, x.B), take(fieldC, x.C), take(fieldTaken, x.D)}
	if x.Op == api.HLds {
		v.d = read(&r.spills[x.N])
	}
	if stuck {
		return api.Left{Kind: api.LeftStuck}
	}
	switch {
	case f.kind != 0:
		o := api.Op{Kind: int(f.kind), W: x.Op - int(f.first), K: x.K}
		r.write(&r.regs[x.D], value.Of(o, v.a, v.b, v.c))
	case f.counts():
		return r.goes(x, f, v)
	default:
		r.moves(x, v)
	}
	return api.Left{}
}

func (r *run) write(to *cell, number uint32) { *to = cell{number, r.enters} }

// moves: what only moves a number.
func (r *run) moves(x *api.Code, v taken) {
	d := &r.regs[x.D]
	switch x.Op {
	case api.HMov:
		r.write(d, v.a)
	case api.HLdc:
		r.write(d, r.c[x.N])
	case api.HStc:
		r.c[x.N] = v.a
	case api.HLds:
		r.write(d, v.d)
	case api.HSts:
		r.write(&r.spills[x.N], v.a)
	case api.HNow:
		r.write(d, ir.State(r.c, 0).F)
	}
}

// goes: what may leave the host, or go on elsewhere.
func (r *run) goes(x *api.Code, f *format, v taken) api.Left {
	left := false
	out := api.Left{Kind: api.LeftOn, PC: x.K, N: r.done + x.N}
	switch int(f.first) {
	case api.HEnter:
		return r.enter(x)
	case api.HLeaveT:
		return r.leaveTo(x, v.a)
	case api.HChain:
		return r.on(int(x.K), x.N)
	case api.HIfOn:
		if v.a != 0 {
			return r.on(int(x.K), x.N)
		}
	case api.HWatch:
		left = r.m.Touched()
	case api.HIf:
		left = v.a != 0
	case api.HLeave:
		left = true
	default:
		out.Kind = api.LeftStop
		out.Stop = r.stop(x, f, v)
		left = out.Stop.Kind != api.Going
	}
	if !left {
		return api.Left{}
	}
	return out
}

// stop: that of an instruction which may have one; or none.
func (r *run) stop(x *api.Code, f *format, v taken) api.Stop {
	sort := x.Op - int(f.first)
	switch int(f.first) {
	case api.HStop:
		return api.Stop{Kind: x.D, Arg: x.X}
	case api.HStopIf:
		if v.a != 0 {
			return api.Stop{Kind: x.D}
		}
	case api.HLoad:
		number, stop := access.Load(r.m, sort, v.a)
		r.write(&r.regs[x.D], number)
		return stop
	case api.HStore:
		return access.Store(r.m, sort, v.a, v.d)
	}
	return api.Stop{}
}

// enter: a block begins, with nothing written.
func (r *run) enter(x *api.Code) api.Left {
	out := api.Left{PC: x.K, N: r.done}
	switch {
	case r.m.Touched():
		out.Kind = api.LeftOn
	case x.N > r.left-r.done:
		out.Kind = api.LeftShort
	case r.count >= fuel:
		out.Kind = api.LeftFuel
	default:
		r.enters++
		return api.Left{}
	}
	return out
}

// leaveTo: on at the guest's place pc; by the table, if it leads there.
func (r *run) leaveTo(x *api.Code, pc uint32) api.Left {
	if size := uint64(len(r.table)); size > 0 {
		e := r.table[uint64(pc)%size]
		// Below 0 there is no enter: an entry that is none leads nowhere.
		if e.PC == pc && r.isEnter(e.At) {
			return r.on(e.At, x.N)
		}
	}
	return api.Left{Kind: api.LeftTo, PC: pc, N: r.done + x.N}
}

// on: at another word, behind n more guest instructions.
func (r *run) on(to, n int) api.Left {
	if !r.isEnter(to) {
		return api.Left{Kind: api.LeftStuck}
	}
	r.done += n
	r.next = to
	return api.Left{}
}
