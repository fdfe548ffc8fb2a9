package access_test

import (
	"math"
	"testing"

	"crossgrain/access"
	"crossgrain/api"
	"crossgrain/mem"
)

func memory() *mem.Memory {
	m := mem.New()
	m.Protect(0, api.Read|api.Write)
	m.Poke(10, []byte{0x80, 0x91, 0x22, 0xf3, 0x7f, 0x7f, 1, 2})
	return m
}

func TestLoad(t *testing.T) {
	m := memory()
	for _, c := range []struct {
		w        int
		at, want uint32
		stop     api.Stop
	}{
		{0, 10, 0x80, api.Stop{}}, {1, 10, 0xffffff80, api.Stop{}}, {2, 10, 0x9180, api.Stop{}}, {3, 10, 0xffff9180, api.Stop{}}, {4, 10, 0xf3229180, api.Stop{}},
		{0, 14, 0x7f, api.Stop{}}, {1, 14, 0x7f, api.Stop{}}, {2, 14, 0x7f7f, api.Stop{}}, {3, 14, 0x7f7f, api.Stop{}}, {4, 14, 0x02017f7f, api.Stop{}},
		{0, 255, 0, api.Stop{}}, {2, 254, 0, api.Stop{}}, {4, 252, 0, api.Stop{}},
		{0, 256, 0, api.Stop{Kind: api.StopLoad, Arg: 256}}, {3, 255, 0, api.Stop{Kind: api.StopLoad, Arg: 256}}, {4, 253, 0, api.Stop{Kind: api.StopLoad, Arg: 256}},
		{1, 0xffffffff, 0, api.Stop{Kind: api.StopLoad, Arg: 0xffffffff}},
		{-1, 10, 0, api.Stop{}}, {5, 10, 0, api.Stop{}}, {math.MaxInt, 10, 0, api.Stop{}}, {math.MinInt, 256, 0, api.Stop{}},
	} {
		if v, stop := access.Load(m, c.w, c.at); v != c.want || stop != c.stop {
			t.Errorf("Load %d at %x: %x, %+v, want %x, %+v", c.w, c.at, v, stop, c.want, c.stop)
		}
	}
}

func TestStore(t *testing.T) {
	for _, c := range []struct {
		w    int
		at   uint32
		want string // eight bytes from 248 on
		stop api.Stop
	}{
		{0, 255, "\x00\x00\x00\x00\x00\x00\x00\x11", api.Stop{}}, {1, 254, "\x00\x00\x00\x00\x00\x00\x11\x22", api.Stop{}}, {2, 249, "\x00\x11\x22\x33\x44\x00\x00\x00", api.Stop{}},
		{0, 256, "\x00\x00\x00\x00\x00\x00\x00\x00", api.Stop{Kind: api.StopStore, Arg: 256}}, {1, 255, "\x00\x00\x00\x00\x00\x00\x00\x00", api.Stop{Kind: api.StopStore, Arg: 256}},
		{2, 253, "\x00\x00\x00\x00\x00\x00\x00\x00", api.Stop{Kind: api.StopStore, Arg: 256}},
		{-1, 249, "\x00\x00\x00\x00\x00\x00\x00\x00", api.Stop{}}, {3, 249, "\x00\x00\x00\x00\x00\x00\x00\x00", api.Stop{}}, {math.MinInt, 256, "\x00\x00\x00\x00\x00\x00\x00\x00", api.Stop{}},
	} {
		m := memory()
		stop := access.Store(m, c.w, c.at, 0x44332211)
		if b, _ := m.Peek(248, 8); string(b) != c.want || stop != c.stop {
			t.Errorf("Store %d at %x: %x, %+v, want %x, %+v", c.w, c.at, b, stop, c.want, c.stop)
		}
	}
}
