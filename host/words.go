package host

import "crossgrain/api"

// In the first word Op has the lowest opBits; D, A, B and C have regBits each,
// one behind the other; N has the upper ones, B's and C's too.
const (
	opBits  = 8
	regBits = 4
	nBits   = 16

	lowD = opBits
	lowA = lowD + regBits
	lowB = lowA + regBits
	lowC = lowB + regBits
	lowN = 32 - nBits
)

// room: as many bits of 1, the lowest.
func room(bits int) uint32 { return 1<<bits - 1 }

// found is an instruction as it lies in words.
type found struct {
	x     api.Code
	f     format
	words int
}

// decode finds the instruction at a word; with an error what it holds is not used.
func (i *found) decode(w []uint32, at int) api.Errno {
	if at < 0 || at > len(w) {
		return api.ErrArg
	}
	if at == len(w) {
		return api.ErrEnd
	}
	f, ok := formatOf(int(w[at] & room(opBits)))
	if !ok {
		return api.ErrOp
	}
	i.f = f
	i.words = i.f.size()
	if i.words > len(w)-at {
		return api.ErrEnd
	}
	if rest := i.read(w[at : at+i.words]); rest != 0 || !i.f.allows(&i.x) {
		return api.ErrField
	}
	return api.OK
}

// read: the fields that words have, by the format, and as the answer those bits
// of the first word that are no field's. There are as many words as it has.
func (i *found) read(w []uint32) uint32 {
	rest := w[0]
	cut := func(low, bits int) int {
		v := rest >> low & room(bits)
		rest &^= v << low
		return int(v)
	}
	field := func(is uint16, low, bits int) int {
		if i.f.has&is == 0 {
			return 0
		}
		return cut(low, bits)
	}
	i.x = api.Code{Op: cut(0, opBits)}
	i.x.D = field(fieldD, lowD, regBits)
	i.x.A = field(fieldA, lowA, regBits)
	i.x.B = field(fieldB, lowB, regBits)
	i.x.C = field(fieldC, lowC, regBits)
	i.x.N = field(fieldN, lowN, nBits)
	if len(w) > 1 {
		i.x.K = w[1]
	}
	if len(w) > 2 {
		i.x.X = w[2]
	}
	return rest
}

// lay: an instruction's words, as its format says; what has no room in them is cut off.
func lay(f format, x api.Code) []uint32 {
	w := make([]uint32, f.size())
	w[0] = uint32(x.Op)
	put := func(is uint16, v, low, bits int) {
		if f.has&is != 0 {
			w[0] |= uint32(v) & room(bits) << low
		}
	}
	put(fieldD, x.D, lowD, regBits)
	put(fieldA, x.A, lowA, regBits)
	put(fieldB, x.B, lowB, regBits)
	put(fieldC, x.C, lowC, regBits)
	put(fieldN, x.N, lowN, nBits)
	copy(w[1:], []uint32{x.K, x.X})
	return w
}
