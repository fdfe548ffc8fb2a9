package interp

import "crossgrain/api"

// What is made of a and b ahead of the flags.
const (
	takeFirst = iota
	takeAnd
	takeOr
	takeXor
	takeQuotient
	takeRest
)

// Reckon: what Alu's kinds make, and their flags; false: by zero.
func Reckon(o int, a, b, f uint32) (uint32, uint32, bool) {
	table := [...]struct {
		k, take uint8
		keeps   bool // only the flags are wanted: the value is a
	}{
		api.Add:  {k: api.FAdd},
		api.Adc:  {k: api.FAdc},
		api.Sub:  {k: api.FSub},
		api.Sbb:  {k: api.FSbb},
		api.And:  {k: api.FLog, take: takeAnd},
		api.Or:   {k: api.FLog, take: takeOr},
		api.Xor:  {k: api.FLog, take: takeXor},
		api.Cmp:  {k: api.FSub, keeps: true},
		api.Test: {k: api.FLog, take: takeAnd, keeps: true},
		api.Shl:  {k: api.FShl},
		api.Shr:  {k: api.FShr},
		api.Sar:  {k: api.FSar},
		api.Rol:  {k: api.FRol},
		api.Mul:  {k: api.FMul},
		api.Divu: {k: api.FLog, take: takeQuotient},
		api.Remu: {k: api.FLog, take: takeRest},
	}
	if o < 0 || o >= len(table) {
		return 0, 0, false
	}
	r := table[o]
	if b == 0 && (r.take == takeQuotient || r.take == takeRest) {
		return 0, 0, false
	}
	v, made := work(int(r.k), taken(r.take, a, b), b, f)
	if r.keeps {
		v = a
	}
	return v, made, true
}

// taken: b is not 0 where it divides.
func taken(take uint8, a, b uint32) uint32 {
	switch take {
	case takeAnd:
		return a & b
	case takeOr:
		return a | b
	case takeXor:
		return a ^ b
	case takeQuotient:
		return a / b
	case takeRest:
		return a % b
	}
	return a
}
