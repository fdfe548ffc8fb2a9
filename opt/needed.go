package opt

import (
	"crossgrain/api"
	"crossgrain/rule"
)

// need goes through a block from its end, and finds what somebody behind asks for.
type need struct {
	taken []bool          // the values that are taken behind
	seen  [api.Slots]bool // the slots that are looked at behind, ahead of a put of them
}

// needed: operations that do the same, without those whose value nobody takes, or whose slot nobody sees.
func needed(ops []api.Op) []api.Op {
	d := need{taken: make([]bool, len(ops))}
	stays := make([]bool, len(ops))
	for i := len(ops) - 1; i >= 0; i-- {
		if stays[i] = d.stays(i, ops[i]); stays[i] {
			d.asks(ops[i])
		}
	}
	return kept(ops, stays)
}

// stays: must the operation i be there?
func (d *need) stays(i int, o api.Op) bool {
	switch {
	case rule.Of(o.Kind).Leaves:
		return true
	case o.Kind == api.OpPut:
		return d.seen[o.W]
	}
	return d.taken[i]
}

// asks: what an operation that stays takes, and which slots it sees.
func (d *need) asks(o api.Op) {
	r := rule.Of(o.Kind)
	list := [...]int{o.A, o.B, o.C}
	for _, n := range list[:r.Takes] {
		d.taken[n] = true
	}
	switch {
	case r.Leaves:
		// Whoever goes on from there sees all of the context.
		d.see(0)
	case o.Kind == api.OpNow:
		d.see(api.SlotK)
	case o.Kind == api.OpGet:
		d.seen[o.W] = true
	case o.Kind == api.OpPut:
		d.seen[o.W] = false
	}
}

// see: the slots from one on.
func (d *need) see(from int) {
	for w := from; w < api.Slots; w++ {
		d.seen[w] = true
	}
}

// kept: the operations that stay, with the numbers that they then have.
func kept(ops []api.Op, stays []bool) []api.Op {
	var list []api.Op
	to := make([]int, len(ops))
	for i, o := range ops {
		if stays[i] {
			to[i] = len(list)
			list = append(list, renumbered(o, to))
		}
	}
	return list
}
