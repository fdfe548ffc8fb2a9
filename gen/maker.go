package gen

import (
	"crossgrain/api"
	"crossgrain/host"
)

// register is one of the host's: is it full, and of which operation's value?
type register struct {
	full  bool
	value int
}

// maker is code that is being laid.
type maker struct {
	ops   []api.Op
	plans []plan
	regs  int // how many registers it may use
	held  [registers]register
	busy  [registers]bool    // those that the operation under way takes
	saved [api.MaxSpill]bool // the spills that have the value of their own number
	words []uint32
}

func (m *maker) lay(x api.Code) {
	// There is no error: what is made of a block that ir.Check lets through has words.
	w, _ := host.Encode(x)
	m.words = append(m.words, w...)
}

// operation: its code, and that which brings its values into registers.
func (m *maker) operation(i int) {
	o, p := &m.ops[i], &m.plans[i]
	if p.lazy {
		return
	}
	x := codeOf(o)
	var regs [most]int
	list := taken(o)
	for j, v := range list[:p.takes] {
		regs[j] = m.bring(v)
		m.plans[v].next = p.after[j]
	}
	m.release()
	x.A, x.B, x.C = regs[0], regs[1], regs[2]
	if o.Kind == api.OpStore {
		// The host has what is stored as D.
		x.D, x.B = x.B, 0
	}
	if p.gives {
		x.D = m.give(i)
	}
	m.lay(x)
}

// find: the register that has a value, if one has.
func (m *maker) find(v int) (int, bool) {
	for r := range m.regs {
		if m.held[r] == (register{true, v}) {
			return r, true
		}
	}
	return 0, false
}

// bring: the register of a value, which is busy then.
func (m *maker) bring(v int) int {
	r, ok := m.find(v)
	if !ok {
		r = m.room()
		x := api.Code{Op: api.HLds, N: v}
		if m.plans[v].lazy {
			x = codeOf(&m.ops[v])
		}
		x.D = r
		m.lay(x)
		m.held[r] = register{true, v}
	}
	m.busy[r] = true
	return r
}

// release: no register is busy any more; those whose value nobody asks for are empty.
func (m *maker) release() {
	for r, busy := range m.busy {
		if busy && m.plans[m.held[r].value].next == 0 {
			m.held[r] = register{}
		}
	}
	clear(m.busy[:])
}

// give: a register for the value of the operation i. It may be one of those that
// the operation takes, which are released by then: they are read ahead of that.
func (m *maker) give(i int) int {
	r := m.room()
	m.held[r] = register{m.plans[i].next != 0, i}
	return r
}

// room: a register that is empty, or else the one whose value is asked for the
// farthest behind. (So none is taken from a value that is to be brought, too.)
func (m *maker) room() int {
	best, far := 0, 0
	for r := range m.regs {
		if m.busy[r] {
			continue
		}
		if !m.held[r].full {
			return r
		}
		if next := m.plans[m.held[r].value].next; next > far {
			best, far = r, next
		}
	}
	m.save(best)
	return best
}

// save: the value of a register is in its spill, if it is not to be made anew.
func (m *maker) save(r int) {
	v := m.held[r].value
	if !m.saved[v] && !m.plans[v].lazy {
		m.lay(api.Code{Op: api.HSts, A: r, N: v})
		m.saved[v] = true
	}
}
