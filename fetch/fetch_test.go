package fetch_test

import (
	"testing"

	"crossgrain/api"
	"crossgrain/fetch"
	"crossgrain/mem"
)

func TestAt(t *testing.T) {
	m := mem.New()
	m.Poke(0, []byte{0x41, 7, 0, 0, 0x80, 0x09, 0x08, 0xff})
	m.Poke(252, []byte{0x90, 1, 0xfe, 6, 0xfd})
	m.Poke(508, []byte{0x40, 1, 2, 3, 4})
	m.Poke(65533, []byte{0, 6, 0x80})
	m.Protect(0, api.Run)
	m.Protect(1, api.Run|api.Write)
	m.Protect(2, api.Read|api.Write)
	m.Protect(255, api.Run)
	stop := func(kind int, at uint32) api.Stop { return api.Stop{Kind: kind, Arg: at} }
	for _, x := range []struct {
		pc   uint32
		ins  api.Ins
		n    int
		stop api.Stop
	}{
		{0, api.Ins{Op: api.MovI, D: 1, Imm: 0x80000007}, 5, api.Stop{}},
		{2, api.Ins{Op: api.Nop}, 1, api.Stop{}},
		{5, api.Ins{}, 0, stop(api.StopOp, 0)},
		{7, api.Ins{}, 0, stop(api.StopOp, 0)},
		{252, api.Ins{Op: api.AluB, D: 1, Imm: 0xfffffffe}, 3, api.Stop{}},
		{255, api.Ins{Op: api.Jmp8, Imm: 0xfffffffd}, 2, api.Stop{}},
		{508, api.Ins{}, 0, stop(api.StopFetch, 512)},
		{512, api.Ins{}, 0, stop(api.StopFetch, 512)},
		{65533, api.Ins{Op: api.Nop}, 1, api.Stop{}},
		{65534, api.Ins{Op: api.Jmp8, Imm: 0xffffff80}, 2, api.Stop{}},
		{65535, api.Ins{}, 0, stop(api.StopFetch, 65536)},
		{65536, api.Ins{}, 0, stop(api.StopFetch, 65536)},
		{0xffffffff, api.Ins{}, 0, stop(api.StopFetch, 0xffffffff)},
	} {
		if ins, n, s := fetch.At(m, x.pc); ins != x.ins || n != x.n || s != x.stop {
			t.Errorf("P3.4 at %x: %+v, %d, %+v, want %+v, %d, %+v", x.pc, ins, n, s, x.ins, x.n, x.stop)
		}
	}
	if ins, n, s := fetch.At(nil, 9); ins != (api.Ins{}) || n != 0 || s != stop(api.StopFetch, 9) {
		t.Errorf("P0 without memory: %+v, %d, %+v", ins, n, s)
	}
}
