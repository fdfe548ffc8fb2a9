// Package rule: what operations have, by their kind.
package rule

import "crossgrain/api"

// What an operation has beside W and the values that it takes. A field that it does not have is 0.
const (
	K = 1 << iota
	N
	Number // B is no operation's number, but one of 32 bits itself
)

// Rule is what the operations of one kind have. Its fields are small because
// the table is laid anew for each look into it.
type Rule struct {
	Low, High uint8 // of W; of kinds that need none both are 0
	Takes     uint8 // how many values: A's; A's and B's; A's, B's and C's
	Has       uint8
	Gives     bool
	Leaves    bool // the block may be left by it
	Ends      bool // it stands at the end, and nothing else does
}

// Of: of a kind; of what is no kind a rule that takes nothing, and neither gives nor ends.
func Of(kind int) Rule {
	table := [...]Rule{
		api.OpConst:  {Has: K, Gives: true},
		api.OpGet:    {High: api.Slots - 1, Gives: true},
		api.OpPut:    {High: api.Slots - 1, Takes: 1},
		api.OpBin:    {High: api.BLts, Takes: 2, Gives: true},
		api.OpUn:     {High: api.UNil, Takes: 1, Gives: true},
		api.OpSel:    {Takes: 3, Gives: true},
		api.OpFlags:  {High: api.FDec, Takes: 3, Gives: true},
		api.OpCond:   {High: 15, Takes: 1, Gives: true},
		api.OpLoad:   {High: 4, Takes: 1, Has: K | N, Gives: true, Leaves: true},
		api.OpStore:  {High: 2, Takes: 2, Has: K | N, Leaves: true},
		api.OpWatch:  {Has: K | N, Leaves: true},
		api.OpIf:     {Takes: 1, Has: K | N, Leaves: true},
		api.OpStopIf: {Low: api.StopSys, High: api.StopDivide, Takes: 1, Has: K | N, Leaves: true},
		api.OpStop:   {Low: api.StopSys, High: api.StopDivide, Has: K | N | Number, Leaves: true, Ends: true},
		api.OpGoto:   {Has: K | N, Leaves: true, Ends: true},
		api.OpGotoT:  {Takes: 1, Has: N, Leaves: true, Ends: true},
		api.OpNow:    {Gives: true},
	}
	if !IsKind(kind) {
		return Rule{}
	}
	return table[kind]
}

// IsKind: is there such a kind?
func IsKind(kind int) bool { return kind >= api.OpConst && kind <= api.OpNow }
