package gen

import "crossgrain/api"

// Where W of an operation goes in the instruction: it is which of its sort, a slot, or a stop's kind.
const (
	intoOp = iota
	intoN
	intoD
)

// codeOf: an operation as an instruction, but for its registers.
func codeOf(o *api.Op) api.Code {
	table := [...]struct{ op, w uint8 }{
		api.OpConst:  {op: api.HLi},
		api.OpGet:    {api.HLdc, intoN},
		api.OpPut:    {api.HStc, intoN},
		api.OpBin:    {api.HBin, intoOp},
		api.OpUn:     {api.HUn, intoOp},
		api.OpSel:    {op: api.HSel},
		api.OpFlags:  {api.HFlags, intoOp},
		api.OpCond:   {api.HCond, intoOp},
		api.OpLoad:   {api.HLoad, intoOp},
		api.OpStore:  {api.HStore, intoOp},
		api.OpWatch:  {op: api.HWatch},
		api.OpIf:     {op: api.HIf},
		api.OpStopIf: {api.HStopIf, intoD},
		api.OpStop:   {api.HStop, intoD},
		api.OpGoto:   {op: api.HLeave},
		api.OpGotoT:  {op: api.HLeaveT},
		api.OpNow:    {op: api.HNow},
	}
	t := table[o.Kind]
	// K and N are 0 where the operation has none, and so has the instruction.
	x := api.Code{Op: int(t.op), N: o.N, K: o.K}
	switch t.w {
	case intoOp:
		x.Op += o.W
	case intoN:
		x.N = o.W
	case intoD:
		x.D = o.W
	}
	if o.Kind == api.OpStop {
		x.X = uint32(o.B)
	}
	return x
}
