package guest_test

import (
	"bytes"
	"fmt"
	"math"
	"testing"

	"crossgrain/api"
	"crossgrain/guest"
)

// kinds is the chapter's table, in letters: above is the field that the first
// byte tells; behind is what lies behind it, a letter a byte: S and D alone in
// their byte, 'o' O and D, 'd' D and S, 'u' Imm, 's' Imm with its sign, "4444" Imm.
var kinds = []struct {
	first, last byte
	op          int
	above       string
	behind      string
}{
	{0x00, 0x00, 0, "", ""}, {0x01, 0x01, 1, "", ""}, {0x02, 0x02, 2, "", ""},
	{0x03, 0x03, 3, "", ""}, {0x04, 0x04, 4, "", ""},
	{0x05, 0x05, 5, "", "u"}, {0x06, 0x06, 6, "", "s"},
	{0x07, 0x07, 7, "", "4444"}, {0x08, 0x08, 8, "", "4444"},
	{0x09, 0x09, 9, "", "S"}, {0x0a, 0x0a, 10, "", "S"}, {0x0b, 0x0b, 11, "", "Ss"},
	{0x10, 0x1f, 12, "O", "s"}, {0x20, 0x2f, 13, "O", "4444"},
	{0x30, 0x37, 14, "S", ""}, {0x38, 0x3f, 15, "D", ""}, {0x40, 0x47, 16, "D", "4444"},
	{0x48, 0x4f, 17, "D", ""}, {0x50, 0x57, 18, "D", ""},
	{0x58, 0x5f, 19, "D", ""}, {0x60, 0x67, 20, "D", ""},
	{0x68, 0x68, 21, "", "o"}, {0x69, 0x69, 22, "", "d"},
	{0x6a, 0x6a, 23, "", "ds"}, {0x6b, 0x6b, 24, "", "ds"},
	{0x6c, 0x6c, 25, "", "ds"}, {0x6d, 0x6d, 26, "", "ds"},
	{0x70, 0x7f, 27, "O", "d"}, {0x80, 0x8f, 28, "O", "D4444"}, {0x90, 0x9f, 29, "O", "Ds"},
	{0xa0, 0xa4, 30, "O", "ds"}, {0xa5, 0xa7, 31, "O", "ds"},
}

// want: what the chapter says of Decode, worked out from kinds.
func want(b []byte) (api.Ins, int, api.Errno) {
	if len(b) == 0 {
		return api.Ins{}, 0, api.ErrEnd
	}
	for _, k := range kinds {
		if b[0] < k.first || b[0] > k.last {
			continue
		}
		n := 1 + len(k.behind)
		if len(b) < n {
			return api.Ins{}, 0, api.ErrEnd
		}
		x := api.Ins{Op: k.op}
		field := map[string]*int{"O": &x.O, "S": &x.S, "D": &x.D}
		if k.above != "" {
			*field[k.above] = int(b[0] - k.first)
		}
		shift := 0
		for i, c := range b[1:n] {
			switch v := int(c); k.behind[i] {
			case 'S', 'D':
				*field[k.behind[i:i+1]] = v
			case 'o':
				x.O, x.D = v/16, v%16
			case 'd':
				x.D, x.S = v/16, v%16
			case 'u':
				x.Imm = uint32(v)
			case 's':
				x.Imm = uint32(v)
				if v >= 128 {
					x.Imm += 0xffffff00
				}
			case '4':
				x.Imm += uint32(v) << shift
				shift += 8
			}
		}
		if x.D > 7 || x.S > 7 {
			return api.Ins{}, 0, api.ErrField
		}
		return x, n, api.OK
	}
	return api.Ins{}, 0, api.ErrOp
}

// each calls f with every first byte, every second one, and a choice of others
// behind them, cut to each length.
func each(f func(b []byte)) {
	f(nil)
	f([]byte{})
	ends := [][]byte{{0, 0, 0, 0, 0}, {0x7f, 0x80, 0xff, 1, 0xfe}, {0x80, 0x7f, 0, 0xff, 0x40}, {0xff, 0xff, 0xff, 0xff, 0xff}, {1, 2, 3, 4, 5}}
	for first := range 256 {
		for second := range 256 {
			for _, end := range ends {
				b := append([]byte{byte(first), byte(second)}, end...)
				for n := 1; n <= len(b); n++ {
					f(b[:n])
				}
			}
		}
	}
}

// P1.1: every first byte, with all that may lie behind it.
func TestDecodeAll(t *testing.T) {
	each(func(b []byte) {
		was := bytes.Clone(b)
		x, n, e := guest.Decode(b)
		y, m, f := want(b)
		if x != y || n != m || e != f {
			t.Fatalf("Decode(%x) = %v, %d, %d, want %v, %d, %d", b, x, n, e, y, m, f)
		}
		if !bytes.Equal(b, was) {
			t.Fatalf("Decode wrote into what it was given: %x, was %x", b, was)
		}
	})
}

// P1.1: the chapter's examples, and each error ahead of those that come later.
func TestDecodeExamples(t *testing.T) {
	for _, c := range []struct {
		b []byte
		x api.Ins
		n int
		e api.Errno
	}{
		{[]byte{0x40, 5, 0, 0, 0}, api.Ins{Op: api.MovI, Imm: 5}, 5, api.OK},
		{[]byte{0x90, 0, 0xff}, api.Ins{Op: api.AluB, Imm: 0xffffffff}, 3, api.OK},
		{[]byte{0x70, 0x12}, api.Ins{Op: api.Alu, D: 1, S: 2}, 2, api.OK},
		{[]byte{0x6a, 0x17, 0xfc}, api.Ins{Op: api.Lea, D: 1, S: 7, Imm: 0xfffffffc}, 3, api.OK},
		{[]byte{0x14, 0xfe}, api.Ins{Op: api.Jcc8, O: 4, Imm: 0xfffffffe}, 2, api.OK},
		{[]byte{5, 0xff}, api.Ins{Op: api.Sys, Imm: 0xff}, 2, api.OK},
		{[]byte{6, 0x7f}, api.Ins{Op: api.Jmp8, Imm: 0x7f}, 2, api.OK},
		{[]byte{6, 0x80}, api.Ins{Op: api.Jmp8, Imm: 0xffffff80}, 2, api.OK},
		{[]byte{0x81, 7, 0x78, 0x56, 0x34, 0x92}, api.Ins{Op: api.AluI, O: 1, D: 7, Imm: 0x92345678}, 6, api.OK},
		{[]byte{0x00, 0xff, 0xff}, api.Ins{}, 1, api.OK},
		{[]byte{0x37, 0x0c}, api.Ins{Op: api.Push, S: 7}, 1, api.OK},
		{nil, api.Ins{}, 0, api.ErrEnd},
		{[]byte{0x80, 0, 1}, api.Ins{}, 0, api.ErrEnd},
		{[]byte{0x80, 8, 1}, api.Ins{}, 0, api.ErrEnd},
		{[]byte{0x6a, 0x88}, api.Ins{}, 0, api.ErrEnd},
		{[]byte{0x0c}, api.Ins{}, 0, api.ErrOp},
		{[]byte{0x0f, 8}, api.Ins{}, 0, api.ErrOp},
		{[]byte{0x6e, 0}, api.Ins{}, 0, api.ErrOp},
		{[]byte{0x6f, 0}, api.Ins{}, 0, api.ErrOp},
		{[]byte{0xa8, 0, 0}, api.Ins{}, 0, api.ErrOp},
		{[]byte{0xff}, api.Ins{}, 0, api.ErrOp},
		{[]byte{0x70, 0x81}, api.Ins{}, 0, api.ErrField},
		{[]byte{0x70, 0x18}, api.Ins{}, 0, api.ErrField},
		{[]byte{9, 8}, api.Ins{}, 0, api.ErrField},
		{[]byte{9, 0x10}, api.Ins{}, 0, api.ErrField},
		{[]byte{0x68, 0x08}, api.Ins{}, 0, api.ErrField},
	} {
		if x, n, e := guest.Decode(c.b); x != c.x || n != c.n || e != c.e {
			t.Errorf("Decode(%x) = %v, %d, %d, want %v, %d, %d", c.b, x, n, e, c.x, c.n, c.e)
		}
	}
}

// P1.2: what is decoded is encoded as the same bytes.
func TestEncodeAll(t *testing.T) {
	each(func(b []byte) {
		x, n, e := want(b)
		if e != api.OK || n != len(b) {
			return
		}
		if c, f := guest.Encode(x); f != api.OK || !bytes.Equal(c, b) {
			t.Fatalf("Encode(%v) = %x, %d, want %x", x, c, f, b)
		}
	})
}

// encodable: is x an instruction by kinds?
func encodable(x api.Ins) bool {
	k := kinds[x.Op]
	// The highest that each field may be; what the instruction does not have is 0.
	most := map[string]int{}
	if k.above != "" {
		most[k.above] = int(k.last - k.first)
	}
	imm := x.Imm == 0
	for _, c := range k.behind {
		switch c {
		case 'S', 'D':
			most[string(c)] = 7
		case 'o':
			most["O"], most["D"] = 15, 7
		case 'd':
			most["D"], most["S"] = 7, 7
		case 'u':
			imm = x.Imm <= 255
		case 's':
			imm = int32(x.Imm) >= -128 && int32(x.Imm) <= 127
		case '4':
			imm = true
		}
	}
	in := func(v int, name string) bool { return v >= 0 && v <= most[name] }
	return imm && in(x.D, "D") && in(x.S, "S") && in(x.O, "O")
}

// P1.2: every Op with fields at their edges and past them.
func TestEncodeFields(t *testing.T) {
	regs := []int{math.MinInt, -256, -16, -1, 0, 1, 7, 8, 15, 16, 256, 257, 1 << 32, math.MaxInt}
	sorts := []int{math.MinInt, -256, -16, -1, 0, 2, 3, 4, 5, 15, 16, 256, 1 << 32, math.MaxInt}
	imms := []uint32{0, 1, 127, 128, 255, 256, 0x7fffffff, 0x80000000, 0xffffff00, 0xffffff7f, 0xffffff80, 0xffffffff}
	for op := range kinds {
		for _, d := range regs {
			for _, s := range regs {
				for _, o := range sorts {
					for _, imm := range imms {
						checkEncode(t, api.Ins{Op: op, D: d, S: s, O: o, Imm: imm})
					}
				}
			}
		}
	}
}

func checkEncode(t *testing.T, x api.Ins) {
	b, e := guest.Encode(x)
	if !encodable(x) {
		if b != nil || e != api.ErrField {
			t.Fatalf("Encode(%v) = %x, %d, want ErrField", x, b, e)
		}
		return
	}
	y, n, f := want(b)
	if e != api.OK || y != x || n != len(b) || f != api.OK {
		t.Fatalf("Encode(%v) = %x, %d: these are %v, %d, %d", x, b, e, y, n, f)
	}
}

// P1.2: wrong instructions; ErrOp ahead of ErrField.
func TestEncodeWrong(t *testing.T) {
	for _, op := range []int{math.MinInt, -256, -1, 32, 33, 255, 256, 1 << 32, math.MaxInt} {
		for _, x := range []api.Ins{{Op: op}, {Op: op, D: 9, S: -1, O: 99, Imm: 1}} {
			if b, e := guest.Encode(x); b != nil || e != api.ErrOp {
				t.Errorf("Encode(%v) = %x, %d, want ErrOp", x, b, e)
			}
		}
	}
	for _, x := range []api.Ins{
		{Op: api.Jmp8, Imm: 128}, {Op: api.Nop, D: 1}, {Op: api.Nop, Imm: 1},
		{Op: api.Inc, D: 8}, {Op: api.Inc, D: -1}, {Op: api.Load, O: 5}, {Op: api.Store, O: -1},
		{Op: api.Sys, Imm: 0xffffffff}, {Op: api.Mov, D: 1, S: -16}, {Op: api.Set, S: 1},
	} {
		if b, e := guest.Encode(x); b != nil || e != api.ErrField {
			t.Errorf("Encode(%v) = %x, %d, want ErrField", x, b, e)
		}
	}
}

// P0: each answer of Encode is new memory.
func TestEncodeNew(t *testing.T) {
	x := api.Ins{Op: api.MovI, D: 1, Imm: 7}
	one, _ := guest.Encode(x)
	clear(one)
	if two, e := guest.Encode(x); e != api.OK || !bytes.Equal(two, []byte{0x41, 7, 0, 0, 0}) {
		t.Errorf("Encode(%v) = %x, %d behind a change of its last answer", x, two, e)
	}
}

// P1.3: the size by every first byte.
func TestSize(t *testing.T) {
	for first := range 256 {
		n := 0
		for _, k := range kinds {
			if byte(first) >= k.first && byte(first) <= k.last {
				n = 1 + len(k.behind)
			}
		}
		if got := guest.Size(byte(first)); got != n {
			t.Errorf("Size(%x) = %d, want %d", first, got, n)
		}
	}
}

// P1.3: behind which Op code may go on elsewhere, or stops.
func TestEnds(t *testing.T) {
	ends := map[int]bool{}
	for _, op := range []int{1, 2, 5, 6, 7, 8, 9, 10, 11, 12, 13} {
		ends[op] = true
	}
	for op := -300; op <= 300; op++ {
		if got := guest.Ends(op); got != ends[op] {
			t.Errorf("Ends(%d) = %v", op, got)
		}
	}
	for _, op := range []int{math.MinInt, math.MaxInt, 1<<32 + 1, 1<<32 + 5} {
		if guest.Ends(op) {
			t.Errorf("Ends(%d) = true", op)
		}
	}
}

func ExampleDecode() {
	x, n, err := guest.Decode([]byte{0x41, 7, 0, 0, 0, 0x05, 0})
	fmt.Println(x.Op == api.MovI, x.D, x.Imm, n, err)
	// Output: true 1 7 5 0
}
