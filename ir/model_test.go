package ir_test

import (
	"math/big"

	"crossgrain/api"
	"crossgrain/interp"
)

// The chapter's words once more, slowly, and without the package's code: a
// switch in place of the table, big numbers in place of those that wrap round,
// bytes asked one by one. Flags and conditions alone are chapter 3's.

// shape is what a kind has in the chapter's table.
type shape struct {
	low, high int    // of W
	needs     string // of A, B, C, K, N; b is the B of stop
	gives     bool
}

func shapeOf(kind int) (shape, bool) {
	switch kind {
	case 1:
		return shape{0, 0, "K", true}, true
	case 2:
		return shape{0, 11, "", true}, true
	case 3:
		return shape{0, 11, "A", false}, true
	case 4:
		return shape{0, 15, "AB", true}, true
	case 5:
		return shape{0, 6, "A", true}, true
	case 6:
		return shape{0, 0, "ABC", true}, true
	case 7:
		return shape{0, 12, "ABC", true}, true
	case 8:
		return shape{0, 15, "A", true}, true
	case 9:
		return shape{0, 4, "AKN", true}, true
	case 10:
		return shape{0, 2, "ABKN", false}, true
	case 11:
		return shape{0, 0, "KN", false}, true
	case 12:
		return shape{0, 0, "AKN", false}, true
	case 13:
		return shape{1, 7, "AKN", false}, true
	case 14:
		return shape{1, 7, "bKN", false}, true
	case 15:
		return shape{0, 0, "KN", false}, true
	case 16:
		return shape{0, 0, "AN", false}, true
	case 17:
		return shape{0, 0, "", true}, true
	}
	return shape{}, false
}

func (s shape) has(field rune) bool {
	for _, f := range s.needs {
		if f == field {
			return true
		}
	}
	return false
}

func isEnd(kind int) bool { return kind == 14 || kind == 15 || kind == 16 }

func slowCheck(b api.Block) (api.Errno, int) {
	if len(b.Ops) > 2048 {
		return api.ErrLarge, -1
	}
	if b.Count < 0 || b.Count > 64 || b.Bytes < 0 || b.Bytes > 384 {
		return api.ErrArg, -1
	}
	for i, o := range b.Ops {
		s, ok := shapeOf(o.Kind)
		if !ok || o.W < s.low || o.W > s.high {
			return api.ErrOp, i
		}
		if !s.has('A') && o.A != 0 || !s.has('B') && !s.has('b') && o.B != 0 || !s.has('C') && o.C != 0 || !s.has('K') && o.K != 0 || !s.has('N') && o.N != 0 {
			return api.ErrField, i
		}
		if s.has('N') && (o.N < 0 || o.N > b.Count) || s.has('b') && (o.B < 0 || o.B > 4294967295) {
			return api.ErrField, i
		}
		gave := map[int]bool{}
		for j, p := range b.Ops[:i] {
			t, _ := shapeOf(p.Kind)
			gave[j] = t.gives
		}
		if s.has('A') && !gave[o.A] || s.has('B') && !gave[o.B] || s.has('C') && !gave[o.C] {
			return api.ErrTemp, i
		}
		if isEnd(o.Kind) && i < len(b.Ops)-1 {
			return api.ErrForm, i
		}
	}
	if len(b.Ops) == 0 || !isEnd(b.Ops[len(b.Ops)-1].Kind) {
		return api.ErrForm, len(b.Ops)
	}
	return api.OK, 0
}

// asSigned: a number of 32 bits with its sign.
func asSigned(a uint32) *big.Int {
	x := big.NewInt(int64(a))
	if a >= 1<<31 {
		x.Sub(x, big.NewInt(1<<32))
	}
	return x
}

// wrapped: the rest by 2 to the 32, which is never below 0.
func wrapped(x *big.Int) uint32 {
	return uint32(new(big.Int).Mod(x, big.NewInt(1<<32)).Uint64())
}

func one(is bool) uint32 {
	if is {
		return 1
	}
	return 0
}

func slowBin(w int, a, b uint32) uint32 {
	x, y, z := big.NewInt(int64(a)), big.NewInt(int64(b)), new(big.Int)
	power := new(big.Int).Exp(big.NewInt(2), big.NewInt(int64(b%32)), nil)
	two32 := big.NewInt(1 << 32)
	switch w {
	case 0:
		return wrapped(z.Add(x, y))
	case 1:
		return wrapped(z.Sub(x, y))
	case 2:
		return wrapped(z.And(x, y))
	case 3:
		return wrapped(z.Or(x, y))
	case 4:
		return wrapped(z.Xor(x, y))
	case 5:
		return wrapped(z.Mul(x, power))
	case 6:
		return wrapped(z.Div(x, power))
	case 7:
		return wrapped(z.Div(asSigned(a), power)) // Div rounds down
	case 8:
		z.Mul(x, power)
		return wrapped(z) + wrapped(new(big.Int).Div(z, two32))
	case 9:
		return wrapped(z.Mul(x, y))
	case 10:
		return wrapped(z.Div(z.Mul(x, y), two32))
	case 11:
		if b == 0 {
			return 4294967295
		}
		return wrapped(z.Div(x, y))
	case 12:
		if b == 0 {
			return a
		}
		return wrapped(z.Mod(x, y))
	case 13:
		return one(x.Cmp(y) == 0)
	case 14:
		return one(x.Cmp(y) < 0)
	}
	return one(asSigned(a).Cmp(asSigned(b)) < 0)
}

func slowUn(w int, a uint32) uint32 {
	sign := func(low, half uint32) uint32 {
		if low >= half {
			return low - 2*half
		}
		return low
	}
	switch w {
	case 0:
		return 4294967295 - a
	case 1:
		return wrapped(big.NewInt(-int64(a)))
	case 2:
		return sign(a%256, 128)
	case 3:
		return sign(a%65536, 32768)
	case 4:
		return a % 256
	case 5:
		return a % 65536
	}
	return one(a == 0)
}

// slow is a memory of the second chapter; all of its pages are watched, if watch.
type slow struct {
	bytes  [65536]byte
	rights [256]int
	watch  bool
	told   bool
}

func (m *slow) bad(at uint32, count, right, kind int) api.Stop {
	for i := range count {
		if a := at + uint32(i); a > 65535 || m.rights[a/256]/right%2 == 0 {
			return api.Stop{Kind: kind, Arg: a}
		}
	}
	return api.Stop{}
}

func (m *slow) load(w int, at uint32) (uint32, api.Stop) {
	count := []int{1, 1, 2, 2, 4}[w]
	if stop := m.bad(at, count, 1, 5); stop.Kind != 0 {
		return 0, stop
	}
	v := uint32(0)
	for i := count - 1; i >= 0; i-- {
		v = v*256 + uint32(m.bytes[int(at)+i])
	}
	if w == 1 || w == 3 {
		v = slowUn(w/2+2, v)
	}
	return v, api.Stop{}
}

func (m *slow) store(w int, at, v uint32) api.Stop {
	count := []int{1, 2, 4}[w]
	if stop := m.bad(at, count, 2, 6); stop.Kind != 0 {
		return stop
	}
	for i := range count {
		m.bytes[int(at)+i] = byte(v % 256)
		v /= 256
	}
	m.told = m.told || m.watch
	return api.Stop{}
}

// slowEval: of what slowCheck does not refuse.
func slowEval(b api.Block, c api.Context, m *slow) (api.Context, api.Exit) {
	gave := map[int]uint32{}
	for i, o := range b.Ops {
		x := api.Exit{PC: o.K, N: o.N}
		switch o.Kind {
		case 1:
			gave[i] = o.K
		case 2:
			gave[i] = c[o.W]
		case 3:
			c[o.W] = gave[o.A]
		case 4:
			gave[i] = slowBin(o.W, gave[o.A], gave[o.B])
		case 5:
			gave[i] = slowUn(o.W, gave[o.A])
		case 6:
			gave[i] = gave[o.C]
			if gave[o.A] > 0 {
				gave[i] = gave[o.B]
			}
		case 7:
			gave[i] = interp.Flags(o.W, gave[o.A], gave[o.B], gave[o.C])
		case 8:
			gave[i] = one(interp.Holds(o.W, gave[o.A]))
		case 9:
			gave[i], x.Stop = m.load(o.W, gave[o.A])
		case 10:
			x.Stop = m.store(o.W, gave[o.A], gave[o.B])
		case 13:
			x.Stop = api.Stop{Kind: o.W}
		case 14:
			x.Stop = api.Stop{Kind: o.W, Arg: uint32(o.B)}
		case 16:
			x.PC = gave[o.A]
		case 17:
			gave[i] = interp.Flags(int(c[8]), c[9], c[10], c[11])
		}
		stopped := (o.Kind == 9 || o.Kind == 10) && x.Stop.Kind != 0
		asked := (o.Kind == 12 || o.Kind == 13) && gave[o.A] > 0
		if stopped || asked || o.Kind == 11 && m.told || isEnd(o.Kind) {
			return c, x
		}
	}
	return c, api.Exit{}
}
