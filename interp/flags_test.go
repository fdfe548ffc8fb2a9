package interp_test

import (
	"math"
	"math/rand"
	"testing"

	"crossgrain/api"
	"crossgrain/interp"
)

// ends: numbers at the ends of those with and without signs, counts, and some between.
func ends() []uint32 {
	return []uint32{
		0, 1, 2, 3, 5, 7, 30, 31, 32, 33, 63, 64, 0xff, 0x100, 0xffff, 0x10000, 0x10001, 0x12345678, 0x55555555,
		0x7ffffffe, 0x7fffffff, 0x80000000, 0x80000001, 0xaaaaaaaa, 0xfedcba98, 0xffff0000, 0xffffffe0, 0xffffffe1, 0xfffffffe, 0xffffffff,
	}
}

// olds: the four flags in all ways, and with other bits.
func olds() []uint32 {
	fs := []uint32{0x10, 0x30, 0x8000000f, 0xfffffff0, 0xfffffffb, 0xffffffff}
	for f := range uint32(16) {
		fs = append(fs, f)
	}
	return fs
}

// P3.1: the chapter's examples, and each k at an edge, by hand.
func TestFlagsByHand(t *testing.T) {
	for _, x := range []struct {
		k               int
		a, b, old, want uint32
	}{
		{1, 0xffffffff, 1, 0, 5}, {3, 0, 1, 0, 6}, {1, 0x7fffffff, 1, 0, 0xa}, {6, 0x80000001, 1, 0, 4}, {11, 0xffffffff, 0, 4, 5},
		{api.FAdd, 2, 3, 15, 0}, {api.FAdd, 0, 0, 15, z}, {api.FAdd, 0x80000000, 0x80000000, 0, z | c | v}, {api.FAdd, 0xffffffff, 0xffffffff, 0, n | c}, {api.FAdd, 0x7fffffff, 0x80000000, 0, n},
		{api.FAdc, 0xffffffff, 0, c, z | c}, {api.FAdc, 0xffffffff, 0, 0, n}, {api.FAdc, 0xffffffff, 0xffffffff, c, n | c}, {api.FAdc, 0x7fffffff, 0, c, n | v}, {api.FAdc, 0x7fffffff, 0xffffffff, c, c}, {api.FAdc, 0x80000000, 0x7fffffff, c, z | c}, {api.FAdc, 0, 0, 0xfffffffb, z},
		{api.FSub, 5, 5, 15, z}, {api.FSub, 7, 5, 15, 0}, {api.FSub, 0x80000000, 1, 0, v}, {api.FSub, 0x7fffffff, 0xffffffff, 0, n | c | v}, {api.FSub, 0, 0x80000000, 0, n | c | v}, {api.FSub, 0xffffffff, 0x80000000, 0, 0},
		{api.FSbb, 5, 5, c, n | c}, {api.FSbb, 5, 5, 11, z}, {api.FSbb, 0, 0xffffffff, c, z | c}, {api.FSbb, 0xffffffff, 0xffffffff, c, n | c}, {api.FSbb, 0x80000000, 0, c, v}, {api.FSbb, 6, 5, c, z}, {api.FSbb, 0, 0x80000000, c, c},
		{api.FLog, 0, 9, 15, z}, {api.FLog, 0x80000000, 0, 15, n}, {api.FLog, 1, 0, 15, 0},
		{api.FShl, 0x80000001, 1, 15, c}, {api.FShl, 0x80000000, 1, 0, z | c}, {api.FShl, 2, 31, 0, z | c}, {api.FShl, 1, 31, 0, n}, {api.FShl, 3, 31, 0, n | c}, {api.FShl, 0x80000001, 33, 0, c}, {api.FShl, 3, 32, 9, 9}, {api.FShl, 3, 0, 0x16, 6},
		{api.FShr, 1, 1, 15, z | c}, {api.FShr, 0x80000000, 31, 15, 0}, {api.FShr, 0xc0000000, 31, 0, c}, {api.FShr, 3, 0x21, 0, c}, {api.FShr, 3, 0xffffffe0, 7, 7},
		{api.FSar, 0x80000000, 31, 15, n}, {api.FSar, 0xffffffff, 31, 0, n | c}, {api.FSar, 0x7fffffff, 31, 0, z | c}, {api.FSar, 3, 33, 0, c}, {api.FSar, 3, 64, 10, 10},
		{api.FRol, 0x80000000, 1, 11, 15}, {api.FRol, 1, 1, 15, 11}, {api.FRol, 2, 31, 0, c}, {api.FRol, 1, 31, 0xff, 11}, {api.FRol, 1, 0, 15, 15}, {api.FRol, 0x80000000, 32, 0xf0, 0}, {api.FRol, 0x80000000, 33, 1, 5},
		{api.FMul, 0x10000, 0x10000, 0, z | c | v}, {api.FMul, 0x10000, 0x8000, 15, n}, {api.FMul, 3, 5, 15, 0}, {api.FMul, 0, 5, 15, z}, {api.FMul, 0xffffffff, 0xffffffff, 0, c | v}, {api.FMul, 0xffffffff, 1, 0, n},
		{api.FInc, 0x7fffffff, 0, 0, n | v}, {api.FInc, 0x7fffffff, 9, c, n | c | v}, {api.FInc, 0xffffffff, 0, 11, z}, {api.FInc, 4, 0xffffffff, 0xf4, c},
		{api.FDec, 0, 0, 0, n}, {api.FDec, 0, 0, c, n | c}, {api.FDec, 1, 5, 15, z | c}, {api.FDec, 0x80000000, 0, c, c | v},
	} {
		if got := interp.Flags(x.k, x.a, x.b, x.old); got != x.want {
			t.Errorf("Flags(%d, %x, %x, %x) = %x, want %x", x.k, x.a, x.b, x.old, got, x.want)
		}
	}
}

// P3.1: each k at all ends, with all flags ahead, and at numbers by chance.
func TestFlagsOfEachK(t *testing.T) {
	check := func(k int, a, b, old uint32) {
		if _, want := slowValue(k, a, b, old); interp.Flags(k, a, b, old) != want {
			t.Fatalf("Flags(%d, %x, %x, %x) = %x, want %x", k, a, b, old, interp.Flags(k, a, b, old), want)
		}
	}
	chance := rand.New(rand.NewSource(1))
	for k := 0; k <= 12; k++ {
		for _, old := range olds() {
			for _, a := range ends() {
				for _, b := range ends() {
					check(k, a, b, old)
				}
			}
		}
		for range 20000 {
			check(k, chance.Uint32(), chance.Uint32(), chance.Uint32())
		}
	}
}

// P3.1: of another k, and by a count of 0, the flags are old.
func TestFlagsAreOld(t *testing.T) {
	for _, old := range olds() {
		for _, a := range ends() {
			for _, k := range []int{0, 13, 14, 15, 16, 255, 256 + 1, 1<<32 + 1, -1, -12, math.MinInt, math.MaxInt} {
				if got := interp.Flags(k, a, 1, old); got != old%16 {
					t.Errorf("Flags(%d, %x, 1, %x) = %x", k, a, old, got)
				}
			}
			for k := api.FShl; k <= api.FRol; k++ {
				for _, b := range []uint32{0, 32, 64, 0x80000000, 0xffffffe0} {
					if got := interp.Flags(k, a, b, old); got != old%16 {
						t.Errorf("Flags(%d, %x, %x, %x) = %x", k, a, b, old, got)
					}
				}
			}
		}
	}
}

// P3.2: each condition by all flags; a column for each c, by the flags for which it holds.
func TestHolds(t *testing.T) {
	var all uint32 = 0xffff
	holds := [...]uint32{ // bit f: does it hold by the flags f?
		0: 0xff00, 2: 0xf0f0, 4: 0xaaaa, 6: 0xfafa, 8: 0xcccc, 10: 0x33cc, 12: 0xbbee, 14: 0xffff, 15: 0,
	}
	for cond := 1; cond < 15; cond += 2 {
		holds[cond] = all &^ holds[cond-1]
	}
	for cond, by := range holds {
		for f := range uint32(16) {
			for _, other := range []uint32{0, 0x10, 0x20, 0x40, 0x80, 0xf0, 0x80000000, 0xfffffff0} {
				if got := interp.Holds(cond, f|other); got != (by>>f&1 == 1) {
					t.Errorf("Holds(%d, %x) = %v", cond, f|other, got)
				}
			}
		}
	}
}

func TestHoldsOfNoCondition(t *testing.T) {
	for f := range uint32(32) {
		for _, cond := range []int{-1, -2, -3, -15, -16, 16, 17, 18, 30, 31, 1<<32 + 14, math.MinInt, math.MinInt + 1, math.MaxInt, math.MaxInt - 1} {
			if interp.Holds(cond, f) {
				t.Errorf("Holds(%d, %x)", cond, f)
			}
		}
	}
}

// P3.3: each O, by hand.
func TestReckonByHand(t *testing.T) {
	for _, x := range []struct {
		o          int
		a, b, f    uint32
		want, flag uint32
	}{
		{api.Add, 3, 4, 15, 7, 0}, {api.Add, 0xffffffff, 1, 0, 0, z | c}, {api.Add, 0x7fffffff, 1, 0, 0x80000000, n | v},
		{api.Adc, 3, 4, c, 8, 0}, {api.Adc, 3, 4, 0xfb, 7, 0}, {api.Adc, 0xffffffff, 0, 0x14, 0, z | c},
		{api.Sub, 3, 4, 0, 0xffffffff, n | c}, {api.Sub, 0x80000000, 1, 0, 0x7fffffff, v},
		{api.Sbb, 3, 3, c, 0xffffffff, n | c}, {api.Sbb, 3, 3, 11, 0, z}, {api.Sbb, 0, 0xffffffff, c, 0, z | c},
		{api.And, 6, 3, 15, 2, 0}, {api.And, 6, 1, 15, 0, z}, {api.Or, 6, 0x80000001, 15, 0x80000007, n}, {api.Xor, 6, 6, 15, 0, z}, {api.Xor, 6, 3, 15, 5, 0},
		{api.Cmp, 5, 7, 0, 5, n | c}, {api.Cmp, 7, 7, 15, 7, z}, {api.Test, 6, 1, 15, 6, z}, {api.Test, 0x80000000, 0xffffffff, 0, 0x80000000, n},
		{api.Shl, 1, 33, 0, 2, 0}, {api.Shl, 5, 32, 0x19, 5, 9}, {api.Shl, 3, 31, 0, 0x80000000, n | c},
		{api.Shr, 0x80000000, 31, 0, 1, 0}, {api.Shr, 7, 0, 6, 7, 6}, {api.Sar, 0x80000000, 31, 0, 0xffffffff, n}, {api.Sar, 0x80000000, 64, 1, 0x80000000, 1},
		{api.Rol, 0x80000001, 1, 1, 3, z | c}, {api.Rol, 0x80000001, 31, 0, 0xc0000000, 0}, {api.Rol, 9, 0, 0xff, 9, 15},
		{api.Mul, 0x10001, 0x10001, 0, 0x20001, c | v}, {api.Mul, 0xffffffff, 0xffffffff, 0, 1, c | v}, {api.Mul, 6, 7, 15, 42, 0},
		{api.Divu, 7, 2, 15, 3, 0}, {api.Divu, 0xfffffffe, 0xffffffff, 0, 0, z}, {api.Divu, 0x80000000, 1, 0, 0x80000000, n}, {api.Divu, 0x80000000, 0xffffffff, 0, 0, z},
		{api.Remu, 6, 2, 15, 0, z}, {api.Remu, 0xffffffff, 0x80000000, 0, 0x7fffffff, 0}, {api.Remu, 0xfffffffe, 0xffffffff, 0, 0xfffffffe, n},
	} {
		got, f, ok := interp.Reckon(x.o, x.a, x.b, x.f)
		if got != x.want || f != x.flag || !ok {
			t.Errorf("Reckon(%d, %x, %x, %x) = %x, %x, %v, want %x, %x", x.o, x.a, x.b, x.f, got, f, ok, x.want, x.flag)
		}
	}
}

// P3.3: each O at all ends, with all flags ahead, and at numbers by chance.
func TestReckonOfEachO(t *testing.T) {
	check := func(o int, a, b, f uint32) {
		got, g, ok := interp.Reckon(o, a, b, f)
		want, h, so := slowReckon(o, a, b, f)
		if got != want || g != h || ok != so {
			t.Fatalf("Reckon(%d, %x, %x, %x) = %x, %x, %v, want %x, %x, %v", o, a, b, f, got, g, ok, want, h, so)
		}
	}
	chance := rand.New(rand.NewSource(2))
	for o := range 16 {
		for _, f := range olds() {
			for _, a := range ends() {
				for _, b := range ends() {
					check(o, a, b, f)
				}
			}
		}
		for range 20000 {
			check(o, chance.Uint32(), chance.Uint32()>>chance.Intn(32), chance.Uint32())
		}
	}
}

// P3.3: by 0, and of another O: 0, 0, false.
func TestReckonOfNone(t *testing.T) {
	none := func(o int, a, b, f uint32) {
		if got, g, ok := interp.Reckon(o, a, b, f); got != 0 || g != 0 || ok {
			t.Errorf("Reckon(%d, %x, %x, %x) = %x, %x, %v", o, a, b, f, got, g, ok)
		}
	}
	for _, a := range ends() {
		for _, f := range olds() {
			none(api.Divu, a, 0, f)
			none(api.Remu, a, 0, f)
			for _, o := range []int{-1, -2, -16, 16, 17, 255, 256, 1 << 32, math.MinInt, math.MaxInt} {
				none(o, a, 0, f)
				none(o, a, 3, f)
			}
		}
	}
}
