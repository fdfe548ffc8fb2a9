// Package value: what operations give of the values that they take.
package value

import (
	"math"
	"math/bits"

	"crossgrain/api"
	"crossgrain/interp"
)

// Of: what an operation gives that hangs on nothing but its fields and what it
// takes, a, b and c: a const, bin, un, sel, flags or cond. Of other kinds it is 0.
func Of(o api.Op, a, b, c uint32) uint32 {
	switch o.Kind {
	case api.OpConst:
		return o.K
	case api.OpBin:
		return Bin(o.W, a, b)
	case api.OpUn:
		return Un(o.W, a)
	case api.OpSel:
		if a != 0 {
			return b
		}
		return c
	case api.OpFlags:
		return interp.Flags(o.W, a, b, c)
	case api.OpCond:
		return truth(interp.Holds(o.W, a))
	}
	return 0
}

// Bin: a by b, as W of bin tells.
func Bin(w int, a, b uint32) uint32 {
	switch w {
	case api.BAdd:
		return a + b
	case api.BSub:
		return a - b
	case api.BAnd:
		return a & b
	case api.BOr:
		return a | b
	case api.BXor:
		return a ^ b
	case api.BShl, api.BShr, api.BSar, api.BRol:
		return moved(w, a, int(b&31))
	case api.BMul:
		return a * b
	case api.BMulhu:
		high, _ := bits.Mul32(a, b)
		return high
	case api.BDivu:
		if b == 0 {
			return math.MaxUint32
		}
		return a / b
	case api.BRemu:
		if b == 0 {
			return a
		}
		return a % b
	case api.BEq:
		return truth(a == b)
	case api.BLtu:
		return truth(a < b)
	}
	return truth(int32(a) < int32(b)) // api.BLts
}

// moved: a's bits, n places further.
func moved(w int, a uint32, n int) uint32 {
	switch w {
	case api.BShl:
		return a << n
	case api.BShr:
		return a >> n
	case api.BSar:
		return uint32(int32(a) >> n)
	}
	return bits.RotateLeft32(a, n) // api.BRol
}

// Un: of a, as W of un tells.
func Un(w int, a uint32) uint32 {
	switch w {
	case api.UNot:
		return ^a
	case api.UNeg:
		return -a
	case api.US8:
		return signed(a, 8)
	case api.US16:
		return signed(a, 16)
	case api.UU8:
		return a & 0xff
	case api.UU16:
		return a & 0xffff
	}
	return truth(a == 0) // api.UNil
}

// signed: the lowest n bits, with their sign.
func signed(a uint32, n int) uint32 { return uint32(int32(a<<(32-n)) >> (32 - n)) }

func truth(is bool) uint32 {
	if is {
		return 1
	}
	return 0
}
