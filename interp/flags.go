package interp

import (
	"math/bits"

	"crossgrain/api"
)

// four are the bits that count in a number that is told as flags.
const four = api.FZ | api.FN | api.FC | api.FV

// count are the bits that count in how far a number is moved.
const count = 31

// How a value and its flags are made. From howLeft to howTurned bits are moved.
const (
	howNot = iota // not at all: the flags stay as they are
	howSum
	howDifference
	howItself
	howProduct
	howLeft
	howRight
	howSigned // to the right, with the highest bit
	howTurned
)

// Flags: as they are made.
func Flags(k int, a, b, old uint32) uint32 {
	_, f := work(k, a, b, old)
	return f
}

// Holds: is a condition so, by flags?
func Holds(c int, f uint32) bool {
	table := [...]struct {
		some           uint32 // one of these is enough
		unlike, always bool
	}{
		{some: api.FV},
		{some: api.FC},
		{some: api.FZ},
		{some: api.FC | api.FZ},
		{some: api.FN},
		{unlike: true},
		{some: api.FZ, unlike: true},
		{always: true},
	}
	if c < 0 || c/2 >= len(table) {
		return false
	}
	r := table[c/2]
	unlike := (f&api.FN != 0) != (f&api.FV != 0)
	holds := r.always || f&r.some != 0 || r.unlike && unlike
	return holds == (c%2 == 0)
}

// work: the value and the flags of k; where k makes none they are a and old.
func work(k int, a, b, old uint32) (uint32, uint32) {
	table := [...]struct {
		how   uint8
		carry bool // old's FC is taken in
		one   bool // b is 1, and FC is left as it is
	}{
		api.FOld: {how: howNot},
		api.FAdd: {how: howSum},
		api.FAdc: {how: howSum, carry: true},
		api.FSub: {how: howDifference},
		api.FSbb: {how: howDifference, carry: true},
		api.FLog: {how: howItself},
		api.FShl: {how: howLeft},
		api.FShr: {how: howRight},
		api.FSar: {how: howSigned},
		api.FRol: {how: howTurned},
		api.FMul: {how: howProduct},
		api.FInc: {how: howSum, one: true},
		api.FDec: {how: howDifference, one: true},
	}
	old &= four
	if k < 0 || k >= len(table) {
		return a, old
	}
	switch r := table[k]; {
	case r.how == howNot:
		return a, old
	case r.how >= howLeft && r.how <= howTurned:
		return moved(r.how, a, int(b&count), old)
	case r.one:
		v, f := reckoned(r.how, a, 1, 0)
		return v, f&^api.FC | old&api.FC
	case r.carry:
		return reckoned(r.how, a, b, old/api.FC&1)
	default:
		return reckoned(r.how, a, b, 0)
	}
}

// reckoned: sums, differences, products, and what is there already.
func reckoned(how uint8, a, b, carry uint32) (uint32, uint32) {
	switch how {
	case howSum:
		v, out := bits.Add32(a, b, carry)
		// Past the signed numbers: both have one sign, and the sum has the other.
		return v, flagsOf(v, out, (a^v)&(b^v)>>31)
	case howDifference:
		v, out := bits.Sub32(a, b, carry)
		return v, flagsOf(v, out, (a^b)&(a^v)>>31)
	case howProduct:
		high, v := bits.Mul32(a, b)
		out := min(high, 1)
		return v, flagsOf(v, out, out)
	}
	return a, flagsOf(a, 0, 0)
}

// moved: a's bits, n places further; by none, nothing is made.
func moved(how uint8, a uint32, n int, old uint32) (uint32, uint32) {
	if n == 0 {
		return a, old
	}
	// What goes out on the left comes in on the right of what is turned.
	turned := bits.RotateLeft32(a, n)
	left, right := turned&1, a>>(n-1)&1
	switch how {
	case howLeft:
		return a << n, flagsOf(a<<n, left, 0)
	case howRight:
		return a >> n, flagsOf(a>>n, right, 0)
	case howSigned:
		v := uint32(int32(a) >> n)
		return v, flagsOf(v, right, 0)
	}
	return turned, old&^api.FC | left*api.FC
}

// flagsOf: of a value, with 0 or 1 as its carry and as whether it is past the signed numbers.
func flagsOf(v, carry, past uint32) uint32 {
	f := carry*api.FC | past*api.FV | v>>31*api.FN
	if v == 0 {
		f |= api.FZ
	}
	return f
}
