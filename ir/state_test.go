package ir_test

import (
	"math"
	"testing"

	"crossgrain/api"
	"crossgrain/interp"
	"crossgrain/ir"
)

func TestEnter(t *testing.T) {
	s := api.State{R: [8]uint32{1, 2, 3, 4, 5, 6, 7, 0xffffffff}, PC: 99}
	for f := range uint32(16) {
		for _, other := range []uint32{0, 0x10, 0x20, 0x80, 0xf0, 0x80000000, 0xfffffff0} {
			s.F = f | other
			want := api.Context{1, 2, 3, 4, 5, 6, 7, 0xffffffff, 0, 0, 0, f}
			if c := ir.Enter(s); c != want {
				t.Errorf("P4.3 Enter with F %x: %x", s.F, c)
			}
			back := s
			back.F = f
			if got := ir.State(ir.Enter(s), s.PC); got != back {
				t.Errorf("P4.3 State of Enter with F %x: %+v", s.F, got)
			}
		}
	}
	if ir.Enter(api.State{}) != (api.Context{}) {
		t.Error("P4.3 Enter of a zero state")
	}
}

func TestState(t *testing.T) {
	c := api.Context{11, 12, 13, 14, 15, 16, 17, 0x80000018}
	for _, x := range []struct{ k, a, b, o, want uint32 }{
		{3, 0, 1, 0, 6},
		{api.FOld, 7, 8, 0x3a, 10}, {api.FAdd, 0xffffffff, 1, 15, 5}, {api.FAdc, 0xffffffff, 0, 4, 5}, {api.FAdc, 0xffffffff, 0, 11, 2},
		{api.FLog, 0, 9, 15, 1}, {api.FShl, 0x80000001, 1, 0, 4}, {api.FShl, 0x80000001, 32, 0xf9, 9}, {api.FDec, 0, 9, 4, 6},
		{13, 0, 1, 0xfc, 12}, {0x80000003, 0, 1, 9, 9}, {0xffffffff, 0, 1, 0xffffffff, 15}, {0x103, 0, 1, 0, 0},
	} {
		c[8], c[9], c[10], c[11] = x.k, x.a, x.b, x.o
		for _, pc := range []uint32{0, 77, 0xffffffff} {
			want := api.State{R: [8]uint32{11, 12, 13, 14, 15, 16, 17, 0x80000018}, PC: pc, F: x.want}
			if got := ir.State(c, pc); got != want {
				t.Errorf("P4.3 State(%x, %x) = %+v, want %+v", c, pc, got, want)
			}
		}
	}
	for k := range uint32(20) {
		for _, a := range ends() {
			for i, b := range ends() {
				got := ir.State(api.Context{8: k, 9: a, 10: b, 11: uint32(i)}, 0).F
				if want := interp.Flags(int(k), a, b, uint32(i)); got != want {
					t.Fatalf("P4.3 flags of %d, %x, %x, %x: %x, want %x", k, a, b, i, got, want)
				}
			}
		}
	}
}

func TestGives(t *testing.T) {
	gives := map[int]bool{1: true, 2: true, 4: true, 5: true, 6: true, 7: true, 8: true, 9: true, 17: true}
	for kind := -20; kind < 300; kind++ {
		if got := ir.Gives(kind); got != gives[kind] {
			t.Errorf("P4.3 Gives(%d) = %v", kind, got)
		}
	}
	for _, kind := range []int{math.MinInt, math.MaxInt, 1<<32 + 1, -1 << 32} {
		if ir.Gives(kind) {
			t.Errorf("P4.3 Gives(%d)", kind)
		}
	}
}
