package engine

import (
	"crossgrain/api"
	"crossgrain/gen"
	"crossgrain/interp"
	"crossgrain/ir"
	"crossgrain/lift"
)

// run is a call of Run under way.
type run struct {
	e *Engine
	// Places whose code is larger than the cache, as long as no page is told:
	// it need not be made anew at each step to be refused again.
	large map[uint32]struct{}
}

// turn: the block of the state's place, with those that it leads to; or one step.
func (r *run) turn(s api.State, left int) (api.State, api.Stop, int) {
	if at, ok := r.come(s.PC); ok {
		x, l := r.e.c.Run(at, ir.Enter(s), r.e.m, left)
		r.lead(l)
		if l.N > 0 {
			return ir.State(x, l.PC), l.Stop, l.N
		}
	}
	// There is no block; or it did nothing, for it has more instructions than
	// are left, or its first one stops: then the step tells that stop too.
	return interp.Run(r.e.m, s, 1)
}

// lead: where the host was left it goes on by itself from now on, if there is a block.
func (r *run) lead(l api.Left) {
	if !r.e.chain {
		return
	}
	// There are errors where nothing can lead on: there is no block, or a watch
	// or an enter was left.
	switch l.Kind {
	case api.LeftOn:
		r.e.c.Link(l.At)
	case api.LeftTo:
		r.e.c.Note(l.PC)
	}
}

// come: to a place: the word where its block begins, if there is one by now.
func (r *run) come(pc uint32) (int, bool) {
	hot := r.e.isHot(pc)
	at, ok := r.e.c.Find(pc)
	if _, large := r.large[pc]; ok || large || !hot {
		return at, ok
	}
	return r.build(pc)
}

// build: a block of a place, if one can be: the word where it begins.
func (r *run) build(pc uint32) (int, bool) {
	e := r.e
	b := lift.Block(e.m, pc, e.most)
	if b.Count == 0 {
		return 0, false
	}
	// There is no error: a lifted block is one, and New asked for the registers.
	code, _ := gen.Code(e.clean(b), e.regs)
	pages := pagesOf(b)
	at, err := e.c.Insert(pc, pages, code)
	for _, page := range pages {
		e.m.Mark(page, true)
	}
	if err != api.OK {
		r.large[pc] = struct{}{}
		return 0, false
	}
	return at, true
}

// settle: of pages that are told there are no blocks any more. They are watched
// no longer, lest each store there leaves the host.
func (r *run) settle() {
	if !r.e.m.Touched() {
		return
	}
	for _, page := range r.e.m.Changed() {
		r.e.c.Drop(page)
		r.e.m.Mark(page, false)
	}
	clear(r.large)
}

// pagesOf: those in which a block's bytes lie.
func pagesOf(b api.Block) []int {
	var pages []int
	last := (int(b.PC) + b.Bytes - 1) / api.PageSize
	for page := int(b.PC) / api.PageSize; page <= last; page++ {
		pages = append(pages, page)
	}
	return pages
}
