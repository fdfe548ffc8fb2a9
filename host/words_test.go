package host_test

import (
	"math"
	"math/rand"
	"slices"
	"testing"

	"crossgrain/api"
	"crossgrain/host"
)

func decodes(t *testing.T, w []uint32, at int, x api.Code, n int, err api.Errno) {
	t.Helper()
	was := slices.Clone(w)
	if y, m, e := host.Decode(w, at); y != x || m != n || e != err {
		t.Errorf("P7.1 Decode(%x, %d) = %+v, %d, %d, want %+v, %d, %d", w, at, y, m, e, x, n, err)
	}
	if !slices.Equal(w, was) {
		t.Errorf("P0 Decode wrote into %x", was)
	}
}

func encodes(t *testing.T, x api.Code, w []uint32, err api.Errno) {
	t.Helper()
	if v, e := host.Encode(x); !slices.Equal(v, w) || e != err {
		t.Errorf("P7.1 Encode(%+v) = %x, %d, want %x, %d", x, v, e, w, err)
	}
}

// likeModel: Decode answers what the model answers; and what is decoded is encoded as it was.
func likeModel(t *testing.T, w []uint32, at int) api.Errno {
	t.Helper()
	x, n, err := slowDecode(w, at)
	decodes(t, w, at, x, n, err)
	if err == api.OK {
		encodes(t, x, w[at:at+n], api.OK)
	}
	return err
}

func numbers() []int {
	return []int{math.MinInt, -1 << 33, -1 << 32, -1 << 16, -256, -255, -17, -16, -1, 256, 257, 1 << 16, 1<<16 + 1, 1 << 32, 1<<32 + 1, 1<<33 + 1, math.MaxInt}
}

func TestDecodeExamples(t *testing.T) {
	decodes(t, []uint32{0x10}, 0, api.Code{Op: api.HBin}, 1, api.OK)
	decodes(t, []uint32{0x01000010}, 0, api.Code{}, 0, api.ErrField)
	decodes(t, []uint32{0x00100010}, 0, api.Code{}, 0, api.ErrField)
	for _, c := range []struct {
		w []uint32
		x api.Code
	}{
		{[]uint32{0x00400001, 0xffffffff}, api.Code{Op: api.HEnter, N: 64, K: 0xffffffff}},
		{[]uint32{0x00000f02, 5}, api.Code{Op: api.HLi, D: 15, K: 5}},
		{[]uint32{0x0000a903}, api.Code{Op: api.HMov, D: 9, A: 10}},
		{[]uint32{0x00037004}, api.Code{Op: api.HLeaveT, A: 7, N: 3}},
		{[]uint32{0x00fedc05}, api.Code{Op: api.HSel, D: 12, A: 13, B: 14, C: 15}},
		{[]uint32{0x000b0406}, api.Code{Op: api.HLdc, D: 4, N: 11}},
		{[]uint32{0x000b4007}, api.Code{Op: api.HStc, A: 4, N: 11}},
		{[]uint32{0x07ff0408}, api.Code{Op: api.HLds, D: 4, N: 2047}},
		{[]uint32{0x07ff4009}, api.Code{Op: api.HSts, A: 4, N: 2047}},
		{[]uint32{0x0009000a, 8}, api.Code{Op: api.HWatch, N: 9, K: 8}},
		{[]uint32{0x0009200b, 8}, api.Code{Op: api.HIf, A: 2, N: 9, K: 8}},
		{[]uint32{0x0009070c, 8, 6}, api.Code{Op: api.HStop, D: 7, N: 9, K: 8, X: 6}},
		{[]uint32{0x0009210d, 8}, api.Code{Op: api.HStopIf, D: 1, A: 2, N: 9, K: 8}},
		{[]uint32{0x0009000e, 8}, api.Code{Op: api.HLeave, N: 9, K: 8}},
		{[]uint32{0x0009000f, 8}, api.Code{Op: api.HChain, N: 9, K: 8}},
		{[]uint32{0x0003211f}, api.Code{Op: api.HBin + api.BLts, D: 1, A: 2, B: 3}},
		{[]uint32{0x00002126}, api.Code{Op: api.HUn + api.UNil, D: 1, A: 2}},
		{[]uint32{0x0043213c}, api.Code{Op: api.HFlags + api.FDec, D: 1, A: 2, B: 3, C: 4}},
		{[]uint32{0x0000214f}, api.Code{Op: api.HCond + 15, D: 1, A: 2}},
		{[]uint32{0x00402154, 4}, api.Code{Op: api.HLoad + 4, D: 1, A: 2, N: 64, K: 4}},
		{[]uint32{0x0040215a, 4}, api.Code{Op: api.HStore + 2, D: 1, A: 2, N: 64, K: 4}},
		{[]uint32{0x00402060, 4}, api.Code{Op: api.HIfOn, A: 2, N: 64, K: 4}},
		{[]uint32{0x00000f61}, api.Code{Op: api.HNow, D: 15}},
	} {
		decodes(t, c.w, 0, c.x, len(c.w), api.OK)
		encodes(t, c.x, c.w, api.OK)
		decodes(t, slices.Concat([]uint32{0, 0, 0xff}, c.w, []uint32{0xff, 0xffffffff}), 3, c.x, len(c.w), api.OK)
	}
}

func TestDecodeOrderOfErrors(t *testing.T) {
	none := api.Code{}
	for _, w := range [][]uint32{nil, {}, {1, 0}, {0xff, 0xff, 0xff}} {
		for _, at := range append([]int{-2, len(w) + 1, len(w) + 2}, numbers()...) {
			decodes(t, w, at, none, 0, api.ErrArg)
		}
		decodes(t, w, len(w), none, 0, api.ErrEnd)
	}
	for op := range uint32(256) {
		s, ok := shapeOf(int(op))
		if !ok {
			for _, first := range []uint32{op, op | 0x100, op | 0xffffff00, op | 0x80000000} {
				decodes(t, []uint32{first}, 0, none, 0, api.ErrOp)
				decodes(t, []uint32{1, first, 0, 0}, 1, none, 0, api.ErrOp)
			}
			continue
		}
		for n := 1; n < s.words(); n++ {
			for _, above := range []uint32{0, 0xffffff00, 0x800000, 0x1000} {
				decodes(t, []uint32{op | above, 7}[:n], 0, none, 0, api.ErrEnd)
				decodes(t, []uint32{2, 0, op | above, 7}[:2+n], 2, none, 0, api.ErrEnd)
			}
		}
	}
}

// fullOf: an instruction without fault, whose fields are the least, or the greatest.
func fullOf(op int, greatest bool) api.Code {
	s, _ := shapeOf(op)
	x := api.Code{Op: op}
	if s.has("s") {
		x.D = 1
	}
	if !greatest {
		return x
	}
	for letter, f := range map[string]*int{"Dd": &x.D, "A": &x.A, "B": &x.B, "C": &x.C} {
		if s.has(letter) {
			*f = 15
		}
	}
	if s.has("s") {
		x.D = 7
	}
	x.N = s.most
	if s.has("K") {
		x.K = math.MaxUint32
	}
	if s.has("X") {
		x.X = math.MaxUint32
	}
	return x
}

// Each Op, with all its fields at their least and at their greatest: each bit of its words by itself turned.
func TestDecodeEachBit(t *testing.T) {
	seen := map[api.Errno]int{}
	for _, op := range ops() {
		for _, greatest := range []bool{false, true} {
			x := fullOf(op, greatest)
			w := words(t, x)
			decodes(t, w, 0, x, len(w), api.OK)
			encodes(t, x, w, api.OK)
			s, _ := shapeOf(op)
			for i := range w {
				for bit := range 32 {
					v := slices.Clone(w)
					v[i] ^= 1 << bit
					seen[likeModel(t, append(v, 0, 0), 0)]++
					if i == 0 && s.ownerOf(bit) == "-" {
						decodes(t, v, 0, api.Code{}, 0, api.ErrField)
					}
				}
			}
		}
	}
	if seen[api.OK] < 1000 || seen[api.ErrField] < 1000 || seen[api.ErrOp] < 100 {
		t.Errorf("this test tells little: %v", seen)
	}
}

// Each Op, with each field by itself at each number that it may be, and at some that it may not.
func TestEachFieldByItself(t *testing.T) {
	for _, op := range ops() {
		for _, greatest := range []bool{false, true} {
			list := append(numbers(), 0, 1, 2, 6, 7, 8, 9, 10, 11, 12, 13, 14, 15, 16, 17, 63, 64, 65, 127, 128, 255, 2046, 2047, 2048, 2049, 4095, 4096, 32768, 65535)
			x := fullOf(op, greatest)
			for _, f := range []*int{&x.D, &x.A, &x.B, &x.C, &x.N} {
				was := *f
				for _, *f = range list {
					w, err := slowEncode(x)
					encodes(t, x, w, err)
					if err == api.OK {
						decodes(t, w, 0, x, len(w), api.OK)
					}
				}
				*f = was
			}
			for _, f := range []*uint32{&x.K, &x.X} {
				was := *f
				for _, *f = range []uint32{0, 1, 0x7fffffff, 0x80000000, 0xffffffff} {
					w, err := slowEncode(x)
					encodes(t, x, w, err)
				}
				*f = was
			}
		}
	}
}

// By hand, at the edges that the chapter names.
func TestEncodeEdges(t *testing.T) {
	for _, c := range []struct {
		x   api.Code
		err api.Errno
	}{
		{api.Code{Op: api.HEnter, N: 64}, api.OK}, {api.Code{Op: api.HEnter, N: 65}, api.ErrField}, {api.Code{Op: api.HEnter, N: -1}, api.ErrField},
		{api.Code{Op: api.HLeaveT, N: 64}, api.OK}, {api.Code{Op: api.HLeaveT, N: 65}, api.ErrField},
		{api.Code{Op: api.HWatch, N: 65}, api.ErrField}, {api.Code{Op: api.HIf, N: 65}, api.ErrField}, {api.Code{Op: api.HLeave, N: 65}, api.ErrField},
		{api.Code{Op: api.HChain, N: 65}, api.ErrField}, {api.Code{Op: api.HIfOn, N: 65}, api.ErrField}, {api.Code{Op: api.HIfOn, N: 64}, api.OK},
		{api.Code{Op: api.HLoad, N: 64}, api.OK}, {api.Code{Op: api.HLoad, N: 65}, api.ErrField}, {api.Code{Op: api.HStore, N: 65}, api.ErrField},
		{api.Code{Op: api.HLdc, N: 11}, api.OK}, {api.Code{Op: api.HLdc, N: 12}, api.ErrField}, {api.Code{Op: api.HStc, N: 12}, api.ErrField},
		{api.Code{Op: api.HLds, N: 2047}, api.OK}, {api.Code{Op: api.HLds, N: 2048}, api.ErrField}, {api.Code{Op: api.HSts, N: 2048}, api.ErrField},
		{api.Code{Op: api.HStop, D: 0}, api.ErrField}, {api.Code{Op: api.HStop, D: 1}, api.OK}, {api.Code{Op: api.HStop, D: 7}, api.OK}, {api.Code{Op: api.HStop, D: 8}, api.ErrField},
		{api.Code{Op: api.HStopIf, D: 0}, api.ErrField}, {api.Code{Op: api.HStopIf, D: 1}, api.OK}, {api.Code{Op: api.HStopIf, D: 7}, api.OK}, {api.Code{Op: api.HStopIf, D: 8}, api.ErrField},
		{api.Code{Op: api.HEnter, D: 1}, api.ErrField}, {api.Code{Op: api.HLi, A: 1}, api.ErrField}, {api.Code{Op: api.HLi, N: 1}, api.ErrField}, {api.Code{Op: api.HLi, X: 1}, api.ErrField},
		{api.Code{Op: api.HMov, B: 1}, api.ErrField}, {api.Code{Op: api.HBin, C: 1}, api.ErrField}, {api.Code{Op: api.HSel, N: 1}, api.ErrField}, {api.Code{Op: api.HSel, K: 1}, api.ErrField},
		{api.Code{Op: api.HStopIf, D: 1, X: 1}, api.ErrField}, {api.Code{Op: api.HNow, A: 1}, api.ErrField}, {api.Code{Op: api.HStc, D: 1}, api.ErrField}, {api.Code{Op: api.HLdc, A: 1}, api.ErrField},
		{api.Code{}, api.ErrOp}, {api.Code{Op: 39}, api.ErrOp}, {api.Code{Op: 47}, api.ErrOp}, {api.Code{Op: 61}, api.ErrOp}, {api.Code{Op: 63}, api.ErrOp},
		{api.Code{Op: 85}, api.ErrOp}, {api.Code{Op: 87}, api.ErrOp}, {api.Code{Op: 91}, api.ErrOp}, {api.Code{Op: 95}, api.ErrOp}, {api.Code{Op: 98}, api.ErrOp}, {api.Code{Op: 255}, api.ErrOp},
		{api.Code{Op: 98, D: 99, N: -1}, api.ErrOp},
	} {
		w, err := host.Encode(c.x)
		if err != c.err || (err != api.OK) != (len(w) == 0) {
			t.Errorf("P7.1 Encode(%+v) = %x, %d, want %d", c.x, w, err, c.err)
		}
	}
	for _, op := range numbers() {
		encodes(t, api.Code{Op: op}, nil, api.ErrOp)
	}
}

func TestDecodeByChance(t *testing.T) {
	r := rand.New(rand.NewSource(7))
	list := ops()
	seen := map[api.Errno]int{}
	for range 200000 {
		w := make([]uint32, r.Intn(6))
		for i := range w {
			w[i] = r.Uint32() >> r.Intn(32)
			if r.Intn(2) == 0 {
				w[i] = w[i]&0xff7ff00&(r.Uint32()|r.Uint32()<<16) | uint32(list[r.Intn(len(list))])
			}
		}
		seen[likeModel(t, w, r.Intn(8)-1)]++
	}
	for _, err := range []api.Errno{api.OK, api.ErrArg, api.ErrEnd, api.ErrOp, api.ErrField} {
		if seen[err] < 5000 {
			t.Errorf("error %d only %d times: this test tells little", err, seen[err])
		}
	}
}

func TestEncodeByChance(t *testing.T) {
	r := rand.New(rand.NewSource(8))
	list := ops()
	seen := map[api.Errno]int{}
	for range 200000 {
		x := fullOf(list[r.Intn(len(list))], r.Intn(2) == 0)
		few := func(f *int, most int) {
			if *f > 0 {
				*f = r.Intn(most + 1)
			}
		}
		few(&x.D, 8)
		few(&x.A, 15)
		few(&x.B, 15)
		few(&x.C, 15)
		few(&x.N, x.N+x.N/8)
		if r.Intn(8) == 0 {
			x.Op = r.Intn(110)
		}
		w, err := slowEncode(x)
		encodes(t, x, w, err)
		if err == api.OK {
			decodes(t, w, 0, x, len(w), api.OK)
		}
		seen[err]++
	}
	for _, err := range []api.Errno{api.OK, api.ErrOp, api.ErrField} {
		if seen[err] < 2000 {
			t.Errorf("error %d only %d times: this test tells little", err, seen[err])
		}
	}
}

// The words of two calls are not the same memory.
func TestEncodeIsNew(t *testing.T) {
	x := api.Code{Op: api.HLi, D: 1, K: 5}
	w, _ := host.Encode(x)
	clear(w)
	encodes(t, x, []uint32{0x102, 5}, api.OK)
}
