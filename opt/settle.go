package opt

import (
	"crossgrain/api"
	"crossgrain/rule"
	"crossgrain/value"
)

// none is where no value is known.
const none = -1

// settle goes through a block from its beginning, and lays only what does not
// give or do what is known already.
type settle struct {
	ops   []api.Op
	same  map[api.Op]int // operations that give the same wherever they stand: where they are laid
	slots [api.Slots]int // the values that the slots are known to have
	now   int            // the value that is the flags of now
	left  bool           // nothing behind is come to
}

// settled: operations that do the same, without those whose value is known, or that change nothing.
func settled(ops []api.Op) []api.Op {
	s := settle{same: map[api.Op]int{}, now: none}
	for i := range s.slots {
		s.slots[i] = none
	}
	to := make([]int, len(ops))
	for i, o := range ops {
		to[i] = s.do(renumbered(o, to))
		if s.left {
			break
		}
	}
	return s.ops
}

// renumbered: an operation that takes values by their new numbers.
func renumbered(o api.Op, to []int) api.Op {
	list := [...]*int{&o.A, &o.B, &o.C}
	for _, n := range list[:rule.Of(o.Kind).Takes] {
		*n = to[*n]
	}
	return o
}

// do: an operation behind those that are laid: the number of the value that it
// gives. Of one that gives none nobody takes the number.
func (s *settle) do(o api.Op) int {
	switch o.Kind {
	case api.OpConst, api.OpBin, api.OpUn, api.OpSel, api.OpFlags, api.OpCond:
		return s.reckon(o)
	case api.OpGet:
		return s.get(o)
	case api.OpPut:
		return s.put(o)
	case api.OpIf, api.OpStopIf:
		return s.ask(o)
	case api.OpNow:
		return s.tell(o)
	}
	return s.lay(o)
}

func (s *settle) lay(o api.Op) int {
	s.ops = append(s.ops, o)
	return len(s.ops) - 1
}

func (s *settle) isConst(n int) bool { return s.ops[n].Kind == api.OpConst }

// reckon: what gives the same wherever it stands is laid once, and not where it is a number.
func (s *settle) reckon(o api.Op) int {
	if o.Kind == api.OpSel && s.isConst(o.A) {
		return s.chosen(o)
	}
	if s.ofConsts(o) {
		o = api.Op{Kind: api.OpConst, K: value.Of(o, s.ops[o.A].K, s.ops[o.B].K, s.ops[o.C].K)}
	}
	n, has := s.same[o]
	if !has {
		n = s.lay(o)
		s.same[o] = n
	}
	return n
}

// chosen: of a sel whose A is known.
func (s *settle) chosen(o api.Op) int {
	if s.ops[o.A].K != 0 {
		return o.B
	}
	return o.C
}

// ofConsts: does it take values, and of consts alone?
func (s *settle) ofConsts(o api.Op) bool {
	takes := rule.Of(o.Kind).Takes
	list := [...]int{o.A, o.B, o.C}
	for _, n := range list[:takes] {
		if !s.isConst(n) {
			return false
		}
	}
	return takes > 0
}

func (s *settle) get(o api.Op) int {
	if s.slots[o.W] == none {
		s.slots[o.W] = s.lay(o)
	}
	return s.slots[o.W]
}

func (s *settle) put(o api.Op) int {
	if s.slots[o.W] == o.A {
		return none
	}
	s.slots[o.W] = o.A
	if o.W >= api.SlotK {
		s.now = none
	}
	return s.lay(o)
}

// ask: where it is known whether the block is left, it is left by an end, or it goes on.
func (s *settle) ask(o api.Op) int {
	if !s.isConst(o.A) {
		return s.lay(o)
	}
	if s.ops[o.A].K == 0 {
		return none
	}
	s.left = true
	end := api.Op{Kind: api.OpGoto, K: o.K, N: o.N}
	if o.Kind == api.OpStopIf {
		end.Kind, end.W = api.OpStop, o.W
	}
	return s.lay(end)
}

// tell: the flags of now.
func (s *settle) tell(o api.Op) int {
	if s.now != none {
		return s.now
	}
	if s.known() {
		return s.reckon(s.made())
	}
	s.now = s.lay(o)
	return s.now
}

// known: is it known how flags are made, and of what?
func (s *settle) known() bool {
	for _, n := range s.slots[api.SlotK:] {
		if n == none {
			return false
		}
	}
	return s.isConst(s.slots[api.SlotK])
}

// made: the operation that makes flags as the slots tell.
func (s *settle) made() api.Op {
	o := api.Op{Kind: api.OpFlags, A: s.slots[api.SlotA], B: s.slots[api.SlotB], C: s.slots[api.SlotO]}
	// A number that is no way of making flags leaves them as they were, as FOld (0) does.
	if k := s.ops[s.slots[api.SlotK]].K; k <= api.FDec {
		o.W = int(k)
	}
	return o
}
