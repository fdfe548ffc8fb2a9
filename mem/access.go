package mem

import "crossgrain/api"

// maxFetch is the most bytes that Fetch answers.
const maxFetch = 8

// Load: n bytes as a number, or the stop. The bytes are asked for their right
// ahead of n: of another n the number is 0, but the stop is the same.
func (m *Memory) Load(a uint32, n int) (uint32, api.Stop) {
	if bad, ok := m.allowed(a, n, api.Read); !ok {
		return 0, api.Stop{Kind: api.StopLoad, Arg: bad}
	}
	if !isWidth(n) {
		return 0, api.Stop{}
	}
	v := uint32(0)
	for i, b := range m.bytes[a : int(a)+n] {
		v |= uint32(b) << (8 * i)
	}
	return v, api.Stop{}
}

// Store: n bytes of a number, or the stop.
func (m *Memory) Store(a uint32, n int, v uint32) api.Stop {
	if !isWidth(n) {
		return api.Stop{}
	}
	if bad, ok := m.allowed(a, n, api.Write); !ok {
		return api.Stop{Kind: api.StopStore, Arg: bad}
	}
	for i := range n {
		m.bytes[int(a)+i] = byte(v >> (8 * i))
	}
	m.change(int(a), n)
	return api.Stop{}
}

// Fetch: the n bytes of an instruction, or the stop.
func (m *Memory) Fetch(a uint32, n int) ([]byte, api.Stop) {
	if n <= 0 || n > maxFetch {
		return nil, api.Stop{}
	}
	if bad, ok := m.allowed(a, n, api.Run); !ok {
		return nil, api.Stop{Kind: api.StopFetch, Arg: bad}
	}
	return m.cut(int(a), n), api.Stop{}
}

func isWidth(n int) bool { return n == 1 || n == 2 || n == 4 }

// allowed asks each byte, not each page: the stop tells the first that may not
// be used. Behind true the bytes lie together, for those that wrap round begin
// beyond the memory. It counts up to n itself, not to its lowest 32 bits, and
// ends at the memory's end at the latest, whatever n is.
func (m *Memory) allowed(a uint32, n, right int) (uint32, bool) {
	for i := range n {
		if b := a + uint32(i); b >= api.MemSize || m.rights[b/api.PageSize]&right == 0 {
			return b, false
		}
	}
	return 0, true
}
