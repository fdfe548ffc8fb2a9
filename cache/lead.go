package cache

import (
	"crossgrain/api"
	"crossgrain/host"
)

// exit is a leave or an if of a block, or the chain or the ifon that it has
// become: the guest's places of that block, and of where it goes. The latter
// stays here because a word's number has taken its room in the code by then.
type exit struct {
	of, to uint32
}

// leads: is an exit chain or ifon now?
func (c *Cache) leads(at int) bool {
	x, _, _ := host.Decode(c.words, at)
	return x.Op == api.HChain || x.Op == api.HIfOn
}

// turn: an exit that left leads to the word k; one that led leaves, to the guest's place k.
func (c *Cache) turn(at int, k uint32) {
	// There is no error: an exit lies there, and both forms of it have the same fields.
	x, _, _ := host.Decode(c.words, at)
	x.Op, x.K = otherForm(x.Op), k
	w, _ := host.Encode(x)
	copy(c.words[at:], w)
}

// otherForm: the Op that leads, of one that leaves; and the other way round.
func otherForm(op int) int {
	switch op {
	case api.HLeave:
		return api.HChain
	case api.HChain:
		return api.HLeave
	case api.HIf:
		return api.HIfOn
	}
	return api.HIf
}

// release: what leads to blocks that are gone leaves again, and their own exits are none any more.
func (c *Cache) release(gone map[uint32]block) {
	is := func(pc uint32) bool {
		_, ok := gone[pc]
		return ok
	}
	for at, e := range c.exits {
		switch {
		case is(e.of):
			delete(c.exits, at)
		case is(e.to) && c.leads(at):
			c.turn(at, e.to)
		}
	}
}

// noEntry is one of the table that leads nowhere.
func noEntry() api.Entry { return api.Entry{At: -1} }

// entry: the one of the table that may lead to the block at pc. There is no other.
func (c *Cache) entry(pc uint32) *api.Entry {
	return &c.table[pc%uint32(len(c.table))]
}

// forget: the table does not lead to that block.
func (c *Cache) forget(pc uint32, b block) {
	if e := c.entry(pc); e.At == b.begin {
		*e = noEntry()
	}
}
