// Package fetch: the guest's instructions as they lie in memory.
package fetch

import (
	"crossgrain/api"
	"crossgrain/guest"
	"crossgrain/mem"
)

// At: the instruction at a place, and how many bytes it has; or the stop. Its
// first byte tells how many are fetched: those behind it may be such as may not
// be run.
func At(m *mem.Memory, pc uint32) (api.Ins, int, api.Stop) {
	if m == nil {
		// In no memory lies no byte.
		return api.Ins{}, 0, api.Stop{Kind: api.StopFetch, Arg: pc}
	}
	b, stop := m.Fetch(pc, 1)
	if stop.Kind != api.Going {
		return api.Ins{}, 0, stop
	}
	b, stop = m.Fetch(pc, guest.Size(b[0]))
	if stop.Kind != api.Going {
		return api.Ins{}, 0, stop
	}
	x, n, err := guest.Decode(b)
	if err != api.OK {
		return api.Ins{}, 0, api.Stop{Kind: api.StopOp}
	}
	return x, n, api.Stop{}
}
