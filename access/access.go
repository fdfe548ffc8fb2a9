// Package access: numbers of memory as loads and stores tell them.
package access

import (
	"crossgrain/api"
	"crossgrain/mem"
)

// Load: the number at a place, of which W tells how many bytes it has, and
// whether with its sign; or the stop. Of what is no W it is 0.
func Load(m *mem.Memory, w int, at uint32) (uint32, api.Stop) {
	table := [...]struct {
		bytes  int
		signed bool
	}{{bytes: 1}, {bytes: 1, signed: true}, {bytes: 2}, {bytes: 2, signed: true}, {bytes: 4}}
	if w < 0 || w >= len(table) {
		return 0, api.Stop{}
	}
	r := table[w]
	v, stop := m.Load(at, r.bytes)
	if above := 32 - 8*r.bytes; r.signed {
		v = uint32(int32(v<<above) >> above)
	}
	return v, stop
}

// Store: as many of a number's lowest bytes as W tells are laid at a place; or
// the stop. Of what is no W nothing is done.
func Store(m *mem.Memory, w int, at, v uint32) api.Stop {
	bytes := [...]int{1, 2, 4}
	if w < 0 || w >= len(bytes) {
		return api.Stop{}
	}
	return m.Store(at, bytes[w], v)
}
