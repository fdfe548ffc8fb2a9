package guest

import "crossgrain/api"

// read: the instruction of a row that bytes are, its registers as they are told.
// There are as many bytes as the row's size.
func read(r row, b []byte) api.Ins {
	x := api.Ins{Op: int(r.op)}
	at := 0
	next := func() int {
		v := int(b[at])
		at++
		return v
	}
	switch above := next() - int(r.first); r.field {
	case fieldO:
		x.O = above
	case fieldS:
		x.S = above
	case fieldD:
		x.D = above
	}
	switch r.regs {
	case regsS:
		x.S = next()
	case regsD:
		x.D = next()
	case regsOD:
		x.O, x.D = halves(next())
	case regsDS:
		x.D, x.S = halves(next())
	}
	switch r.imm {
	case immByte:
		x.Imm = uint32(next())
	case immSigned:
		x.Imm = uint32(int8(next()))
	case immFour:
		for shift := 0; shift < 32; shift += 8 {
			x.Imm |= uint32(next()) << shift
		}
	}
	return x
}

// halves: the upper and the lower four bits of a byte.
func halves(v int) (int, int) { return v >> 4, v & 15 }

// lay: an instruction's bytes, as its row says; what has no room in them is cut off.
func lay(r row, x api.Ins) []byte {
	b := make([]byte, 0, r.size())
	put := func(v int) { b = append(b, byte(v)) }
	above := [...]int{fieldNone: 0, fieldO: x.O, fieldS: x.S, fieldD: x.D}
	put(int(r.first) + above[r.field])
	switch r.regs {
	case regsS:
		put(x.S)
	case regsD:
		put(x.D)
	case regsOD:
		put(16*x.O + x.D)
	case regsDS:
		put(16*x.D + x.S)
	}
	switch r.imm {
	case immByte, immSigned:
		put(int(x.Imm))
	case immFour:
		for shift := 0; shift < 32; shift += 8 {
			put(int(x.Imm >> shift))
		}
	}
	return b
}
