package lift

import "crossgrain/api"

// ifCarry is the condition that FC is.
const ifCarry = 2

// What flags are made of.
const (
	ofBoth   = iota // the operands
	ofValue         // the value that is made of them
	ofBefore        // the operands and the flags of before: moved by none these stay
	ofCarry         // likewise: the value takes in their carry
)

// reckon: what alu's sorts do to D's register by b.
func (u *turn) reckon(b int) {
	a := u.read(u.x.D)
	switch u.x.O {
	case api.Cmp:
		u.tell(api.FSub, a, b)
	case api.Test:
		u.tell(api.FLog, u.bin(api.BAnd, a, b))
	case api.Divu, api.Remu:
		u.lay(api.Op{Kind: api.OpStopIf, W: api.StopDivide, A: u.un(api.UNil, b), K: u.pc, N: u.done})
		u.change(a, b)
	default:
		u.change(a, b)
	}
}

// change: D's register, a, is what is made of a and b; and the flags.
func (u *turn) change(a, b int) {
	table := [...]struct{ bin, k, of int }{
		api.Add:  {api.BAdd, api.FAdd, ofBoth},
		api.Adc:  {api.BAdd, api.FAdc, ofCarry},
		api.Sub:  {api.BSub, api.FSub, ofBoth},
		api.Sbb:  {api.BSub, api.FSbb, ofCarry},
		api.And:  {api.BAnd, api.FLog, ofValue},
		api.Or:   {api.BOr, api.FLog, ofValue},
		api.Xor:  {api.BXor, api.FLog, ofValue},
		api.Shl:  {api.BShl, api.FShl, ofBefore},
		api.Shr:  {api.BShr, api.FShr, ofBefore},
		api.Sar:  {api.BSar, api.FSar, ofBefore},
		api.Rol:  {api.BRol, api.FRol, ofBefore},
		api.Mul:  {api.BMul, api.FMul, ofBoth},
		api.Divu: {api.BDivu, api.FLog, ofValue},
		api.Remu: {api.BRemu, api.FLog, ofValue},
	}
	r := table[u.x.O]
	v := u.bin(r.bin, a, b)
	of := []int{a, b}
	switch r.of {
	case ofValue:
		of = []int{v}
	case ofBefore:
		of = append(of, u.now())
	case ofCarry:
		old := u.now()
		v = u.bin(r.bin, v, u.lay(api.Op{Kind: api.OpCond, W: ifCarry, A: old}))
		of = append(of, old)
	}
	u.put(u.x.D, v)
	u.tell(r.k, of...)
}
