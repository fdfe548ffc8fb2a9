package host

import "crossgrain/api"

// Which fields an instruction has. D is one of three: a register that is
// written, one that is read, or a stop's kind.
const (
	fieldA = 1 << iota
	fieldB
	fieldC
	fieldN
	fieldK
	fieldX
	fieldGiven
	fieldTaken
	fieldStop

	fieldD = fieldGiven | fieldTaken | fieldStop
)

// format is what the instructions from one Op to another have. Its fields are
// small because the table is laid anew for each look into it.
type format struct {
	first, last uint8
	kind        uint8 // of the operation of which it gives the value; 0: of none
	has         uint16
	most        uint16 // the greatest N
}

// size: how many words its instructions have.
func (f *format) size() int {
	switch {
	case f.has&fieldX != 0:
		return 3
	case f.has&fieldK != 0:
		return 2
	}
	return 1
}

// counts: is N a number of guest instructions? Such an instruction may be left by, or lead on.
func (f *format) counts() bool { return f.most == api.MaxBlock }

// allows: are the fields of an instruction, which have room in its words, such as they may be?
func (f *format) allows(x *api.Code) bool {
	stop := x.D >= api.StopSys && x.D <= api.StopDivide
	return x.N <= int(f.most) && (f.has&fieldStop == 0 || stop)
}

// formatOf: of the instructions with that Op.
func formatOf(op int) (format, bool) {
	const (
		bin   = fieldGiven | fieldA | fieldB
		un    = fieldGiven | fieldA
		three = fieldGiven | fieldA | fieldB | fieldC
		slot  = api.Slots - 1
		spill = api.MaxSpill - 1
		done  = api.MaxBlock
	)
	table := [...]format{
		{api.HEnter, api.HEnter, 0, fieldN | fieldK, done},
		{api.HLi, api.HLi, api.OpConst, fieldGiven | fieldK, 0},
		{api.HMov, api.HMov, 0, un, 0},
		{api.HLeaveT, api.HLeaveT, 0, fieldA | fieldN, done},
		{api.HSel, api.HSel, api.OpSel, three, 0},
		{api.HLdc, api.HLdc, 0, fieldGiven | fieldN, slot},
		{api.HStc, api.HStc, 0, fieldA | fieldN, slot},
		{api.HLds, api.HLds, 0, fieldGiven | fieldN, spill},
		{api.HSts, api.HSts, 0, fieldA | fieldN, spill},
		{api.HWatch, api.HWatch, 0, fieldN | fieldK, done},
		{api.HIf, api.HIf, 0, fieldA | fieldN | fieldK, done},
		{api.HStop, api.HStop, 0, fieldStop | fieldN | fieldK | fieldX, done},
		{api.HStopIf, api.HStopIf, 0, fieldStop | fieldA | fieldN | fieldK, done},
		{api.HLeave, api.HLeave, 0, fieldN | fieldK, done},
		{api.HChain, api.HChain, 0, fieldN | fieldK, done},
		{api.HBin, api.HBin + api.BLts, api.OpBin, bin, 0},
		{api.HUn, api.HUn + api.UNil, api.OpUn, un, 0},
		{api.HFlags, api.HFlags + api.FDec, api.OpFlags, three, 0},
		{api.HCond, api.HCond + 15, api.OpCond, un, 0},
		{api.HLoad, api.HLoad + 4, 0, fieldGiven | fieldA | fieldN | fieldK, done},
		{api.HStore, api.HStore + 2, 0, fieldTaken | fieldA | fieldN | fieldK, done},
		{api.HIfOn, api.HIfOn, 0, fieldA | fieldN | fieldK, done},
		{api.HNow, api.HNow, 0, fieldGiven, 0},
	}
	for i := range table {
		if f := &table[i]; op >= int(f.first) && op <= int(f.last) {
			return *f, true
		}
	}
	return format{}, false
}
