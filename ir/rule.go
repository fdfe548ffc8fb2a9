package ir

import (
	"math"

	"crossgrain/api"
)

// maxBytes is the most bytes of the guest that a block has: no instruction has more than six.
const maxBytes = 6 * api.MaxBlock

// What an operation needs beside W. A field that it does not need is 0.
const (
	needA = 1 << iota
	needB
	needC
	needK
	needN
	needNumber // B is no operation's number, but one of 32 bits itself
)

// rule is what the operations of one kind have. Its fields are small because
// the table is laid anew for each look into it.
type rule struct {
	low, high uint8 // of W; of kinds that need none both are 0
	needs     uint8
	gives     bool
	ends      bool // it stands at the end, and nothing else does
}

// ruleOf: of a kind; of what is no kind a rule that neither gives nor ends.
func ruleOf(kind int) rule {
	table := [...]rule{
		api.OpConst:  {needs: needK, gives: true},
		api.OpGet:    {high: api.Slots - 1, gives: true},
		api.OpPut:    {high: api.Slots - 1, needs: needA},
		api.OpBin:    {high: api.BLts, needs: needA | needB, gives: true},
		api.OpUn:     {high: api.UNil, needs: needA, gives: true},
		api.OpSel:    {needs: needA | needB | needC, gives: true},
		api.OpFlags:  {high: api.FDec, needs: needA | needB | needC, gives: true},
		api.OpCond:   {high: 15, needs: needA, gives: true},
		api.OpLoad:   {high: 4, needs: needA | needK | needN, gives: true},
		api.OpStore:  {high: 2, needs: needA | needB | needK | needN},
		api.OpWatch:  {needs: needK | needN},
		api.OpIf:     {needs: needA | needK | needN},
		api.OpStopIf: {low: api.StopSys, high: api.StopDivide, needs: needA | needK | needN},
		api.OpStop:   {low: api.StopSys, high: api.StopDivide, needs: needNumber | needK | needN, ends: true},
		api.OpGoto:   {needs: needK | needN, ends: true},
		api.OpGotoT:  {needs: needA | needN, ends: true},
		api.OpNow:    {gives: true},
	}
	if !isKind(kind) {
		return rule{}
	}
	return table[kind]
}

func isKind(kind int) bool { return kind >= api.OpConst && kind <= api.OpNow }

// within: is it from 0 to most?
func within(n, most int) bool { return n >= 0 && n <= most }

// checkOp: the first error of the operation i; those ahead of it have none.
func checkOp(b api.Block, i int) api.Errno {
	o := b.Ops[i]
	r := ruleOf(o.Kind)
	switch {
	case !isKind(o.Kind) || o.W < int(r.low) || o.W > int(r.high):
		return api.ErrOp
	case !r.fields(o, b.Count):
		return api.ErrField
	case !r.taken(o, b.Ops[:i]):
		return api.ErrTemp
	case r.ends && i != len(b.Ops)-1:
		return api.ErrForm
	}
	return api.OK
}

// fields: is each what it may be, but for the numbers of operations?
func (r rule) fields(o api.Op, count int) bool {
	list := [...]struct {
		need uint8
		has  bool
	}{
		{needA, o.A != 0},
		{needB | needNumber, o.B != 0},
		{needC, o.C != 0},
		{needK, o.K != 0},
		{needN, o.N != 0},
	}
	for _, f := range list {
		if f.has && r.needs&f.need == 0 {
			return false
		}
	}
	if r.needs&needNumber != 0 && (o.B < 0 || int64(o.B) > math.MaxUint32) {
		return false
	}
	return within(o.N, count)
}

// taken: is each value that it takes given by an operation ahead of it?
func (r rule) taken(o api.Op, ahead []api.Op) bool {
	list := [...]struct {
		need   uint8
		number int
	}{{needA, o.A}, {needB, o.B}, {needC, o.C}}
	for _, t := range list {
		if r.needs&t.need == 0 {
			continue
		}
		if !within(t.number, len(ahead)-1) || !Gives(ahead[t.number].Kind) {
			return false
		}
	}
	return true
}
