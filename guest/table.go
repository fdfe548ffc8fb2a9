package guest

import "crossgrain/api"

// Which field the first byte tells, by how far it is above the first of its row.
const (
	fieldNone = iota
	fieldO
	fieldS
	fieldD
)

// What the byte behind the first one tells, if there is such a byte.
const (
	regsNone = iota
	regsS
	regsD
	regsOD // 16 times O, and D
	regsDS // 16 times D, and S
)

// How Imm lies at the end.
const (
	immNone = iota
	immByte
	immSigned // a byte with its sign
	immFour   // four bytes, the lowest first
)

// row is what the instructions of one Op have. Its fields are small because
// the table is laid anew for each look into it.
type row struct {
	op, first, count uint8 // first bytes are first, .., first + count - 1
	field, regs, imm uint8
}

// size: how many bytes its instructions have.
func (r row) size() int {
	lengths := [...]int{immNone: 0, immByte: 1, immSigned: 1, immFour: 4}
	n := 1 + lengths[r.imm]
	if r.regs != regsNone {
		n++
	}
	return n
}

// rowOfByte: of the instructions that begin with a byte.
func rowOfByte(first byte) (row, bool) {
	// Below r.first the difference wraps round, to above all counts.
	return find(func(r row) bool { return first-r.first < r.count })
}

// rowOfOp: of the instructions with that Op.
func rowOfOp(op int) (row, bool) {
	return find(func(r row) bool { return int(r.op) == op })
}

// find: the row that fits.
func find(fits func(r row) bool) (row, bool) {
	table := [...]row{
		{api.Nop, 0x00, 1, fieldNone, regsNone, immNone},
		{api.Brk, 0x01, 1, fieldNone, regsNone, immNone},
		{api.Ret, 0x02, 1, fieldNone, regsNone, immNone},
		{api.Pushf, 0x03, 1, fieldNone, regsNone, immNone},
		{api.Popf, 0x04, 1, fieldNone, regsNone, immNone},
		{api.Sys, 0x05, 1, fieldNone, regsNone, immByte},
		{api.Jmp8, 0x06, 1, fieldNone, regsNone, immSigned},
		{api.Jmp, 0x07, 1, fieldNone, regsNone, immFour},
		{api.Call, 0x08, 1, fieldNone, regsNone, immFour},
		{api.JmpR, 0x09, 1, fieldNone, regsS, immNone},
		{api.CallR, 0x0a, 1, fieldNone, regsS, immNone},
		{api.JmpM, 0x0b, 1, fieldNone, regsS, immSigned},
		{api.Jcc8, 0x10, 16, fieldO, regsNone, immSigned},
		{api.Jcc, 0x20, 16, fieldO, regsNone, immFour},
		{api.Push, 0x30, 8, fieldS, regsNone, immNone},
		{api.Pop, 0x38, 8, fieldD, regsNone, immNone},
		{api.MovI, 0x40, 8, fieldD, regsNone, immFour},
		{api.Inc, 0x48, 8, fieldD, regsNone, immNone},
		{api.Dec, 0x50, 8, fieldD, regsNone, immNone},
		{api.Neg, 0x58, 8, fieldD, regsNone, immNone},
		{api.Not, 0x60, 8, fieldD, regsNone, immNone},
		{api.Set, 0x68, 1, fieldNone, regsOD, immNone},
		{api.Mov, 0x69, 1, fieldNone, regsDS, immNone},
		{api.Lea, 0x6a, 1, fieldNone, regsDS, immSigned},
		{api.Xchg, 0x6b, 1, fieldNone, regsDS, immSigned},
		{api.Xadd, 0x6c, 1, fieldNone, regsDS, immSigned},
		{api.Cas, 0x6d, 1, fieldNone, regsDS, immSigned},
		{api.Alu, 0x70, 16, fieldO, regsDS, immNone},
		{api.AluI, 0x80, 16, fieldO, regsD, immFour},
		{api.AluB, 0x90, 16, fieldO, regsD, immSigned},
		{api.Load, 0xa0, 5, fieldO, regsDS, immSigned},
		{api.Store, 0xa5, 3, fieldO, regsDS, immSigned},
	}
	for i := range table {
		if fits(table[i]) {
			return table[i], true
		}
	}
	return row{}, false
}
