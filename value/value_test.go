package value_test

import (
	"math"
	"testing"

	"crossgrain/api"
	"crossgrain/value"
)

// Each kind of operation by hand. Package ir's tests hold each W of them
// against numbers that do not wrap round.
func TestOf(t *testing.T) {
	for _, c := range []struct {
		kind, w       int
		a, b, c, want uint32
	}{
		{api.OpConst, 0, 1, 2, 3, 77},
		{api.OpBin, api.BAdd, 0xffffffff, 2, 9, 1},
		{api.OpBin, api.BSub, 1, 2, 9, 0xffffffff},
		{api.OpBin, api.BShl, 3, 33, 9, 6},
		{api.OpBin, api.BSar, 0x80000000, 31, 9, 0xffffffff},
		{api.OpBin, api.BRol, 0x80000001, 1, 9, 3},
		{api.OpBin, api.BMulhu, 0x80000000, 4, 9, 2},
		{api.OpBin, api.BDivu, 7, 0, 9, 0xffffffff},
		{api.OpBin, api.BRemu, 7, 0, 9, 7},
		{api.OpBin, api.BLtu, 1, 0xffffffff, 9, 1},
		{api.OpBin, api.BLts, 1, 0xffffffff, 9, 0},
		{api.OpUn, api.UNot, 5, 8, 9, 0xfffffffa},
		{api.OpUn, api.UNeg, 5, 8, 9, 0xfffffffb},
		{api.OpUn, api.US8, 0x180, 8, 9, 0xffffff80},
		{api.OpUn, api.US16, 0x17fff, 8, 9, 0x7fff},
		{api.OpUn, api.UU8, 0x180, 8, 9, 0x80},
		{api.OpUn, api.UU16, 0x18000, 8, 9, 0x8000},
		{api.OpUn, api.UNil, 0, 8, 9, 1},
		{api.OpSel, 0, 4, 8, 9, 8},
		{api.OpSel, 0, 0, 8, 9, 9},
		{api.OpFlags, api.FAdd, 0xffffffff, 1, 0, api.FZ | api.FC},
		{api.OpFlags, api.FOld, 1, 2, 0xff, 15},
		{api.OpCond, 2, api.FC, 0, 0, 1},
		{api.OpCond, 3, api.FC, 0, 0, 0},
	} {
		if v := value.Of(api.Op{Kind: c.kind, W: c.w, K: 77}, c.a, c.b, c.c); v != c.want {
			t.Errorf("kind %d, W %d of %x, %x, %x: %x, want %x", c.kind, c.w, c.a, c.b, c.c, v, c.want)
		}
	}
}

// What gives no such value is 0, and no W makes it panic.
func TestOfOthers(t *testing.T) {
	for _, kind := range []int{-1, 0, api.OpGet, api.OpPut, api.OpLoad, api.OpGoto, api.OpNow, 18, math.MaxInt} {
		if v := value.Of(api.Op{Kind: kind, K: 77}, 1, 2, 3); v != 0 {
			t.Errorf("kind %d: %x, want 0", kind, v)
		}
	}
	for _, w := range []int{-1, 7, 13, 16, math.MaxInt, math.MinInt} {
		for kind := api.OpBin; kind <= api.OpCond; kind++ {
			value.Of(api.Op{Kind: kind, W: w}, 1, 0, 3)
		}
	}
}
