// Package guest: the guest's instructions as bytes.
package guest

import "crossgrain/api"

// highest is the number of the last register.
const highest = 7

// Decode: the instruction with which bytes begin, and how many it has.
func Decode(b []byte) (api.Ins, int, api.Errno) {
	if len(b) == 0 {
		return api.Ins{}, 0, api.ErrEnd
	}
	r, ok := rowOfByte(b[0])
	if !ok {
		return api.Ins{}, 0, api.ErrOp
	}
	n := r.size()
	if len(b) < n {
		return api.Ins{}, 0, api.ErrEnd
	}
	x := read(r, b[:n])
	if x.D > highest || x.S > highest {
		return api.Ins{}, 0, api.ErrField
	}
	return x, n, api.OK
}

// Encode: an instruction's bytes.
func Encode(x api.Ins) ([]byte, api.Errno) {
	r, ok := rowOfOp(x.Op)
	if !ok {
		return nil, api.ErrOp
	}
	// Laying cuts each field to its room. No two runs of bytes are the same
	// instruction, so x has bytes only if these are decoded as x again.
	b := lay(r, x)
	if y, _, err := Decode(b); err != api.OK || y != x {
		return nil, api.ErrField
	}
	return b, api.OK
}

// Size: how many bytes an instruction has that begins with this one; 0: none does.
func Size(first byte) int {
	r, ok := rowOfByte(first)
	if !ok {
		return 0
	}
	return r.size()
}

// Ends: does a block end behind an instruction?
func Ends(op int) bool {
	return op == api.Brk || op == api.Ret || op >= api.Sys && op <= api.Jcc
}
