package cache_test

import (
	"math"
	"slices"
	"testing"

	"crossgrain/api"
	"crossgrain/cache"
	"crossgrain/mem"
)

// wants: is an answer the one that a test tells of itself, beside the account?
func wants[T comparable](t *testing.T, what string, got, want T) {
	t.Helper()
	if got != want {
		t.Errorf("%s: %v, want %v", what, got, want)
	}
}

func TestNew(t *testing.T) {
	none := api.Entry{PC: 0, At: -1}
	for _, words := range []int{0, 1, 2, api.MaxCode, api.MaxCode + 1, -1, math.MinInt, math.MaxInt, 1 << 32, 1<<32 + 1} {
		for _, slots := range []int{0, 1, 3, 65536, 65537, -1, math.MinInt, math.MaxInt, 1 << 32, 1<<32 + 1} {
			want := api.OK
			if words < 1 || words > 1048576 || slots < 1 || slots > 65536 {
				want = api.ErrArg
			}
			c, err := cache.New(words, slots)
			if err != want || (c == nil) != (err != api.OK) {
				t.Errorf("New(%d, %d): %v, %d, want %d", words, slots, c != nil, err, want)
			}
			if err != api.OK {
				continue
			}
			table := c.Table()
			if len(c.Places()) != 0 || c.Used() != 0 || len(c.Words()) != 0 || len(table) != slots {
				t.Errorf("New(%d, %d): it is not empty", words, slots)
			}
			if slices.ContainsFunc(table, func(e api.Entry) bool { return e != none }) {
				t.Errorf("New(%d, %d): table %v", words, slots, table)
			}
		}
	}
}

// The least and the greatest room, with blocks that just fit, and that do not by one word.
func TestNewRoom(t *testing.T) {
	b := open(t, 1, 1)
	_, err := b.insert(0, nil, enter(0, 0))
	wants(t, "P9.1 two words in a room of 1", err, api.ErrLarge)
	large := slices.Concat(lay(enter(0, 7)), slices.Repeat(lay(mov(0, 0)), api.MaxCode-2))
	c, _ := cache.New(api.MaxCode, 65536)
	at, err := c.Insert(7, nil, append(large, lay(mov(0, 0))...))
	if at != 0 || err != api.ErrLarge || c.Used() != 0 {
		t.Errorf("P9.1 MaxCode + 1 words: %d, %d, used %d", at, err, c.Used())
	}
	at, err = c.Insert(7, nil, large)
	if at != 0 || err != api.OK || c.Used() != api.MaxCode || !slices.Equal(c.Words(), large) {
		t.Errorf("P9.1 MaxCode words: %d, %d, used %d", at, err, c.Used())
	}
	at, err = c.Insert(8, nil, lay(enter(0, 8)))
	if at != 0 || err != api.OK || c.Used() != 2 || !slices.Equal(c.Places(), []uint32{8}) {
		t.Errorf("P9.1 behind MaxCode words: %d, %d, used %d", at, err, c.Used())
	}
}

func TestExample(t *testing.T) {
	b := open(t, 16, 4)
	insert := func(want int, pc uint32, pages []int, list ...api.Code) {
		t.Helper()
		at, err := b.insert(pc, pages, list...)
		wants(t, "Insert", at, want)
		wants(t, "Insert", err, api.OK)
	}
	words := func(want ...uint32) {
		t.Helper()
		if !slices.Equal(b.c.Words(), want) {
			t.Errorf("words %x, want %x", b.c.Words(), want)
		}
	}
	insert(0, 10, []int{0}, enter(1, 10), leave(1, 12))
	wants(t, "Used", b.c.Used(), 4)
	insert(4, 12, []int{1}, enter(1, 12), leave(1, 10))
	wants(t, "Link(2)", b.link(2), api.OK)
	words(0x10001, 10, 0x1000f, 4, 0x10001, 12, 0x1000e, 10)
	wants(t, "Link(2) again", b.link(2), api.ErrArg)
	wants(t, "Link(6)", b.link(6), api.OK)
	words(0x10001, 10, 0x1000f, 4, 0x10001, 12, 0x1000f, 0)
	wants(t, "Drop(1)", b.drop(1), 1)
	words(0x10001, 10, 0x1000e, 12, 0, 0, 0, 0)
	wants(t, "Used", b.c.Used(), 8)
	wants(t, "Link(2) behind Drop", b.link(2), api.ErrNone)
	insert(0, 30, nil, enter(1, 30), li(0, 1), li(0, 2), li(0, 3), leave(1, 10))
	wants(t, "Used", b.c.Used(), 10)
}

func TestInsertPages(t *testing.T) {
	for _, x := range []struct {
		pages []int
		want  api.Errno
	}{
		{nil, api.OK}, {[]int{}, api.OK}, {[]int{0}, api.OK}, {[]int{255}, api.OK}, {[]int{7, 7}, api.OK},
		{[]int{255, 0, 63, 64, 127, 128, 191, 192, 255}, api.OK},
		{[]int{-1}, api.ErrArg}, {[]int{256}, api.ErrArg}, {[]int{0, -1}, api.ErrArg}, {[]int{256, 0}, api.ErrArg},
		{[]int{1, 2, 256, 3}, api.ErrArg}, {[]int{math.MinInt}, api.ErrArg}, {[]int{math.MaxInt}, api.ErrArg},
		{[]int{1 << 32}, api.ErrArg}, {[]int{-256}, api.ErrArg}, {[]int{-255}, api.ErrArg},
	} {
		b := open(t, 16, 4)
		_, err := b.insert(10, x.pages, enter(1, 10), leave(1, 12))
		wants(t, "P9.1 Insert", err, x.want)
		dropped := 0
		for page := -2; page < 260; page++ {
			dropped += b.drop(page)
		}
		if has := err == api.OK && len(x.pages) > 0; has != (dropped == 1) || dropped > 1 {
			t.Errorf("P9.4 pages %v: %d were dropped", x.pages, dropped)
		}
	}
	for page := range 256 {
		b := open(t, 16, 4)
		b.insert(10, []int{page}, enter(1, 10), leave(1, 12))
		for other := -300; other < 600; other++ {
			if n := b.c.Drop(other); other != page && n != 0 {
				t.Fatalf("P9.4 a block of page %d, Drop(%d): %d", page, other, n)
			} else if other == page && n != 1 {
				t.Fatalf("P9.4 a block of page %d, Drop of it: %d", page, n)
			}
		}
	}
}

// badCodes: what is not the code of a block at 10.
func badCodes() map[string][]uint32 {
	good := lay(enter(1, 10), ldc(1, 2), ifs(1, 1, 12), stop(1, 1, 12, 0), leave(1, 12))
	then := func(list ...api.Code) []uint32 { return append(slices.Clone(good), lay(list...)...) }
	return map[string][]uint32{
		"no word":                              nil,
		"no word at all":                       {},
		"half an enter":                        good[:1],
		"half an if":                           good[:4],
		"a third of a stop":                    good[:6],
		"two thirds of a stop":                 good[:7],
		"half a leave":                         good[:9],
		"a word that is none":                  append(slices.Clone(good), 0),
		"a word that is none, in the middle":   slices.Concat(good[:3], []uint32{40}, good[3:]),
		"a word that is none, at first":        slices.Concat([]uint32{0}, good),
		"a field that may not be":              append(slices.Clone(good), 65<<16|14, 0),
		"a bit that is no field's":             append(slices.Clone(good), 1<<20|3),
		"an enter of 65":                       {65<<16 | 1, 10},
		"a second enter":                       then(enter(1, 10)),
		"a second enter of another place":      then(enter(1, 12)),
		"a second enter, just behind":          lay(enter(1, 10), enter(1, 10), leave(1, 12)),
		"an enter that is not the first":       lay(ldc(1, 2), enter(1, 10), leave(1, 12)),
		"no enter":                             lay(ldc(1, 2), leave(1, 12)),
		"leave alone":                          lay(leave(1, 10)),
		"leave of that place":                  lay(leave(1, 10), enter(1, 10)),
		"an enter at another place":            lay(enter(1, 11), leave(1, 12)),
		"an enter at that place, by 16 bits":   lay(enter(1, 0x1000a), leave(1, 12)),
		"an enter at N, not at K":              lay(enter(10, 1), leave(1, 12)),
		"a chain":                              then(chain(1, 0)),
		"a chain for a leave":                  lay(enter(1, 10), chain(1, 0)),
		"an ifon":                              lay(enter(1, 10), ldc(1, 2), ifon(1, 1, 0), leave(1, 12)),
		"an ifon at the end":                   then(ifon(1, 1, 0)),
		"a chain, at first":                    lay(chain(1, 10), enter(1, 10)),
		"bad at the end, behind another enter": slices.Concat(good, lay(enter(1, 10)), []uint32{0}),
	}
}

func TestInsertForm(t *testing.T) {
	for what, code := range badCodes() {
		b := open(t, 30, 4)
		b.insert(12, []int{1}, enter(1, 12), leave(1, 10))
		b.note(12)
		if _, err := b.insertWords(10, []int{1}, nil, code, true); err != api.ErrForm {
			t.Errorf("P9.1 %s: %d", what, err)
		}
	}
	for _, list := range [][]api.Code{
		{enter(1, 10)}, {enter(0, 10), mov(1, 1)}, {enter(64, 10), stop(7, 64, 10, 1)}, {enter(1, 10), leavet(3, 1)},
		// Numbers within instructions that would be none, were they such themselves.
		{enter(1, 10), li(0, 0x1000f), leave(1, 12)}, {enter(1, 10), li(0, 1), leave(1, 96)}, {enter(1, 10), stop(1, 1, 15, 0), watch(1, 1)},
		// What is behind a leave is the block's, too.
		{enter(1, 10), leave(1, 12), leave(1, 13), ifs(1, 1, 10)},
	} {
		b := open(t, 30, 4)
		if at, err := b.insert(10, nil, list...); at != 0 || err != api.OK {
			t.Errorf("P9.1 %v: %d, %d", list, at, err)
		}
	}
	for _, pc := range []uint32{0, 1, 65535, 65536, 0x7fffffff, 0x80000000, 0xffffffff} {
		b := open(t, 30, 4)
		b.insert(pc, nil, enter(1, pc), leave(1, pc))
		b.insertWords(pc+1, nil, nil, lay(enter(1, pc), leave(1, pc)), true)
		b.link(2)
		b.note(pc)
	}
}

// Of two errors, in each pair, the one that is named first; none changes anything.
func TestInsertOrder(t *testing.T) {
	large := append([]api.Code{enter(1, 10)}, slices.Repeat([]api.Code{li(0, 1)}, 5)...)
	largeNew := slices.Clone(large)
	largeNew[0].K = 11
	fits := []api.Code{enter(1, 10), leave(1, 10)}
	fitsNew := []api.Code{enter(1, 11), leave(1, 11)}
	bad := func(list []api.Code) []uint32 { return append(lay(list...), 0) }
	for _, x := range []struct {
		what  string
		pc    uint32
		pages []int
		list  []api.Code
		code  []uint32
		want  api.Errno
	}{
		{"page and form", 11, []int{256}, fitsNew, bad(fitsNew), api.ErrArg},
		{"page and no word", 11, []int{-1}, nil, nil, api.ErrArg},
		{"page and there", 10, []int{-1}, fits, lay(fits...), api.ErrArg},
		{"page and large", 11, []int{0, 256}, largeNew, lay(largeNew...), api.ErrArg},
		{"form and there", 10, []int{0}, fits, bad(fits), api.ErrForm},
		{"form and large", 11, []int{0}, largeNew, bad(largeNew), api.ErrForm},
		{"there and large", 10, []int{0}, large, lay(large...), api.ErrHas},
		{"page, form, there, large", 10, []int{-1}, large, bad(large), api.ErrArg},
		{"form, there, large", 10, nil, large, bad(large), api.ErrForm},
		{"page", 11, []int{-1}, fitsNew, lay(fitsNew...), api.ErrArg},
		{"form", 11, nil, fitsNew, bad(fitsNew), api.ErrForm},
		{"there", 10, nil, fits, lay(fits...), api.ErrHas},
		{"there, though there is no room behind it", 10, nil, large[:4], lay(large[:4]...), api.ErrHas},
		{"large", 11, nil, largeNew, lay(largeNew...), api.ErrLarge},
		{"none", 11, nil, fitsNew, lay(fitsNew...), api.OK},
	} {
		b := open(t, 10, 3)
		b.insert(10, []int{0}, fits...)
		b.link(2)
		b.note(10)
		isBad := len(x.code) != len(lay(x.list...)) || len(x.code) == 0
		if at, err := b.insertWords(x.pc, x.pages, x.list, x.code, isBad); err != x.want || (err != api.OK && at != 0) {
			t.Errorf("P9.1 %s: %d, %d, want %d", x.what, at, err, x.want)
		}
	}
}

// filled: of room words, blocks of four words at 0, 1, .., each of the page of its number, each
// leading to the next, the last one to the first, each noted.
func filled(t *testing.T, room, slots, blocks int) *both {
	t.Helper()
	b := open(t, room, slots)
	for i := range blocks {
		b.insert(uint32(i), []int{i}, enter(1, uint32(i)), leave(1, uint32((i+1)%blocks)))
	}
	for i := range blocks {
		wants(t, "P9.3 Link", b.link(4*i+2), api.OK)
		wants(t, "P9.3 Note", b.note(uint32(i)), api.OK)
	}
	return b
}

func TestInsertRoom(t *testing.T) {
	for _, x := range []struct{ room, lis, at, used int }{
		{16, 0, 8, 12},  // behind the others, with room behind it
		{12, 0, 8, 12},  // it just fits
		{11, 0, 0, 4},   // one word too few
		{10, 0, 0, 4},   // only an enter would fit
		{8, 0, 0, 4},    // no room behind them
		{8, 2, 0, 8},    // it just fits in the whole
		{9, 2, 0, 8},    // and nearly so
		{16, 2, 8, 16},  // it just fits behind them
		{15, 2, 0, 8},   // not any more
		{8, 3, -1, 8},   // larger than the whole
		{9, 3, -1, 8},   // by one word
		{10, 3, 0, 10},  // not any more
		{17, 3, 0, 10},  // one word too few
		{18, 3, 8, 18},  // it just fits
		{8, 100, -1, 8}, // far larger
	} {
		b := filled(t, x.room, 4, 2)
		list := slices.Concat([]api.Code{enter(1, 9)}, slices.Repeat([]api.Code{li(0, 1)}, x.lis), []api.Code{leave(1, 0)})
		at, err := b.insert(9, []int{1}, list...)
		switch {
		case x.at < 0:
			wants(t, "P9.1 too large", err, api.ErrLarge)
			wants(t, "P9.1 too large", len(b.c.Places()), 2)
		default:
			wants(t, "P9.1", err, api.OK)
			wants(t, "P9.1", at, x.at)
		}
		wants(t, "P9.2 Used", b.c.Used(), x.used)
		// What leads on behind a flush, and what does not.
		b.link(2)
		b.link(at + 2 + 2*x.lis)
		b.note(0)
		b.note(9)
		b.drop(0)
		b.drop(1)
	}
}

// A block at the very word where another lay: nothing of that one counts.
func TestInsertAgain(t *testing.T) {
	ends := map[string]func(b *both){
		"drop and flush": func(b *both) { b.drop(0); b.drop(1); b.flush() },
		"drop":           func(b *both) { b.drop(0); b.drop(1) },
		"flush":          func(b *both) { b.flush() },
		"nothing":        func(b *both) {},
		"drop and no room": func(b *both) {
			b.drop(0)
			b.insert(50, nil, enter(1, 50), li(0, 1), li(0, 1), li(0, 1))
			b.flush()
		},
		"no room": func(b *both) {
			b.insert(51, []int{0}, enter(1, 51), li(0, 1), li(0, 1), li(0, 1))
			b.drop(0)
			b.flush()
		},
	}
	for what, end := range ends {
		b := filled(t, 8, 4, 2)
		end(b)
		// Where the first had its leave this one has a number that looks like one, and it has another page.
		at, err := b.insert(20, []int{9}, enter(1, 20), li(0, 0x1000e), leave(1, 20))
		if at != 0 || err != api.OK {
			t.Fatalf("%s: %d, %d", what, at, err)
		}
		wants(t, what+": the old leave", b.link(2), api.ErrArg)
		wants(t, what+": a number", b.link(3), api.ErrArg)
		wants(t, what+": the old second leave", b.link(6), api.ErrArg)
		wants(t, what+": the leave", b.link(4), api.OK)
		wants(t, what+": the old page", b.drop(0)+b.drop(1), 0)
		wants(t, what+": the old place", b.note(0), api.ErrNone)
		wants(t, what+": the page", b.drop(9), 1)
	}
}

// The same place again: behind a drop it lies behind what is used, behind a flush at first.
func TestSamePlace(t *testing.T) {
	b := filled(t, 16, 4, 2)
	wants(t, "drop", b.drop(1), 1)
	at, err := b.insert(1, []int{3}, enter(1, 1), ldc(1, 0), ifs(1, 1, 0), leave(1, 1))
	wants(t, "P9.1 behind a drop", at, 8)
	wants(t, "P9.1 behind a drop", err, api.OK)
	if x := b.c.Words()[2]; x != 0x1000e {
		t.Errorf("P9.4 what led to the dropped one leads to the new one: %x", x)
	}
	wants(t, "P9.3 Link to the new one", b.link(2), api.OK)
	wants(t, "K", b.c.Words()[3], 8)
	wants(t, "P9.3 Link of the new one", b.link(11), api.OK)
	wants(t, "P9.3 Link of the new one", b.link(13), api.OK)
	wants(t, "the old page", b.drop(1), 0)
	wants(t, "Note", b.note(1), api.OK)
	wants(t, "the new page", b.drop(3), 1)
	b.flush()
	at, err = b.insert(1, nil, enter(1, 1), leave(1, 0))
	wants(t, "P9.1 behind a flush", at, 0)
	wants(t, "P9.1 behind a flush", err, api.OK)
	wants(t, "P9.3 behind a flush", b.link(2), api.ErrNone)
}

func TestLink(t *testing.T) {
	b := open(t, 100, 4)
	// 0 enter, 2 ldc, 3 if, 5 li (with a number like a leave's word), 7 watch, 9 stop, 12 leave, 14 leavet, 15 leave
	b.insert(10, []int{1}, enter(1, 10), ldc(1, 2), ifs(1, 1, 20), li(2, 0x1000e), watch(1, 0x1000e), stop(1, 1, 0x1000e, 0x1000b), leave(1, 30), leavet(1, 1), leave(0, 10))
	b.insert(20, []int{2}, enter(1, 20), leave(1, 10))
	b.insert(0, []int{3}, enter(1, 0), leave(1, 0))
	for _, x := range []struct {
		at   int
		want api.Errno
	}{
		{-1, api.ErrArg}, {math.MinInt, api.ErrArg}, {math.MaxInt, api.ErrArg}, {25, api.ErrArg}, {26, api.ErrArg}, {99, api.ErrArg}, {100, api.ErrArg}, {101, api.ErrArg}, {1<<32 + 3, api.ErrArg},
		{0, api.ErrArg}, {1, api.ErrArg}, {2, api.ErrArg}, {4, api.ErrArg}, {5, api.ErrArg}, {6, api.ErrArg}, {7, api.ErrArg}, {8, api.ErrArg}, {9, api.ErrArg}, {10, api.ErrArg}, {11, api.ErrArg}, {13, api.ErrArg}, {14, api.ErrArg}, {16, api.ErrArg},
		{12, api.ErrNone}, {12, api.ErrNone},
		{3, api.OK}, {3, api.ErrArg}, {15, api.OK}, {15, api.ErrArg}, {19, api.OK}, {23, api.OK}, {23, api.ErrArg},
	} {
		wants(t, "P9.3 Link", b.link(x.at), x.want)
	}
	w := b.c.Words()
	for at, want := range map[int]uint32{3: 1<<16 | 1<<12 | 96, 4: 17, 15: 15, 16: 0, 19: 1<<16 | 15, 20: 0, 23: 1<<16 | 15, 24: 21} {
		wants(t, "P9.3 a word", w[at], want)
	}
	wants(t, "P9.4 Drop", b.drop(2), 1)
	wants(t, "P9.3 Link within what is dropped", b.link(19), api.ErrArg)
	wants(t, "P9.3 Link within what is dropped", b.link(17), api.ErrArg)
	wants(t, "P9.3 Link to what is dropped", b.link(3), api.ErrNone)
	b.insert(30, nil, enter(1, 30))
	wants(t, "P9.3 Link, there is a block now", b.link(12), api.OK)
	b.insert(20, nil, enter(1, 20))
	wants(t, "P9.3 Link, there is one again", b.link(3), api.OK)
	b.flush()
	wants(t, "P9.3 Link, nothing is there", b.link(12), api.ErrArg)
}

// N and A stay as they are, up to their ends; so does the place, behind a drop.
func TestLinkFields(t *testing.T) {
	for _, n := range []int{0, 1, 63, 64} {
		for a := range 16 {
			for _, pc := range []uint32{0, 7, 65536, 0xffffffff} {
				b := open(t, 20, 1)
				b.insert(5, nil, enter(1, 5), leave(n, pc), ifs(a, n, pc))
				b.insert(pc, []int{1}, enter(1, pc))
				wants(t, "Link", b.link(2), api.OK)
				wants(t, "Link", b.link(4), api.OK)
				want := lay(enter(1, 5), chain(n, 6), ifon(a, n, 6), enter(1, pc))
				if !slices.Equal(b.c.Words(), want) {
					t.Errorf("P9.3 %x, want %x", b.c.Words(), want)
				}
				wants(t, "Drop", b.drop(1), 1)
				want = append(lay(enter(1, 5), leave(n, pc), ifs(a, n, pc)), 0, 0)
				if !slices.Equal(b.c.Words(), want) {
					t.Errorf("P9.4 %x, want %x", b.c.Words(), want)
				}
			}
		}
	}
}

func TestNote(t *testing.T) {
	b := open(t, 100, 4)
	wants(t, "P9.3 Note of an empty one", b.note(0), api.ErrNone)
	for _, pc := range []uint32{6, 2, 0, 65539, 0xfffffffe, 0xffffffff} {
		b.insert(pc, []int{int(pc % 5)}, enter(1, pc), leave(1, pc))
	}
	table := func(want ...api.Entry) {
		t.Helper()
		if got := b.c.Table(); !slices.Equal(got, want) {
			t.Errorf("P9.3 table %v, want %v", got, want)
		}
	}
	none := api.Entry{At: -1}
	table(none, none, none, none)
	for _, pc := range []uint32{6, 0, 65539} {
		wants(t, "Note", b.note(pc), api.OK)
	}
	table(api.Entry{PC: 0, At: 8}, none, api.Entry{PC: 6, At: 0}, api.Entry{PC: 65539, At: 12})
	wants(t, "Note of one that shares the slot", b.note(2), api.OK)
	table(api.Entry{PC: 0, At: 8}, none, api.Entry{PC: 2, At: 4}, api.Entry{PC: 65539, At: 12})
	wants(t, "Note of 2^32 - 2", b.note(0xfffffffe), api.OK)
	wants(t, "Note of 2^32 - 1", b.note(0xffffffff), api.OK)
	table(api.Entry{PC: 0, At: 8}, none, api.Entry{PC: 0xfffffffe, At: 16}, api.Entry{PC: 0xffffffff, At: 20})
	for _, pc := range []uint32{1, 3, 4, 10, 65536, 65542} {
		wants(t, "Note of a place without a block", b.note(pc), api.ErrNone)
	}
	// 6 has page 1: another has its slot by now, and keeps it.
	wants(t, "Drop", b.drop(1), 1)
	table(api.Entry{PC: 0, At: 8}, none, api.Entry{PC: 0xfffffffe, At: 16}, api.Entry{PC: 0xffffffff, At: 20})
	wants(t, "Note of what was dropped", b.note(6), api.ErrNone)
	// 0 and 2^32 - 1 have page 0.
	wants(t, "Drop", b.drop(0), 2)
	table(none, none, api.Entry{PC: 0xfffffffe, At: 16}, none)
	b.flush()
	table(none, none, none, none)
	wants(t, "Note of what was flushed", b.note(2), api.ErrNone)
}

// Each number of slots: the rest, for places on both sides of it.
func TestNoteSlots(t *testing.T) {
	for _, slots := range []int{1, 2, 3, 5, 7, 255, 256, 65535, 65536} {
		b := open(t, 100, slots)
		for _, pc := range []uint32{0, 1, uint32(slots) - 1, uint32(slots), uint32(slots) + 1, 0x7fffffff, 0x80000001, 0xffffffff} {
			if _, ok := b.c.Find(pc); !ok {
				b.insert(pc, []int{5}, enter(1, pc), leave(1, pc))
			}
			wants(t, "Note", b.note(pc), api.OK)
			at, _ := b.c.Find(pc)
			wants(t, "P9.3 the entry", b.c.Table()[uint64(pc)%uint64(slots)], api.Entry{PC: pc, At: at})
		}
		b.drop(5)
	}
}

func TestDrop(t *testing.T) {
	b := open(t, 100, 2)
	b.insert(0, []int{0, 1}, enter(1, 0), ldc(1, 0), ifs(1, 1, 1), leave(1, 0))
	b.insert(1, []int{1, 1, 2}, enter(1, 1), ldc(1, 0), ifs(1, 1, 0), leave(1, 2))
	b.insert(2, []int{255}, enter(1, 2), ldc(1, 0), ifs(1, 1, 1), leave(1, 0))
	b.insert(3, nil, enter(1, 3), ldc(1, 0), ifs(1, 1, 2), leave(1, 3))
	for at := range 28 {
		b.link(at)
	}
	b.note(0)
	b.note(1)
	for _, page := range []int{-1, 3, 254, 256, 257, 512, -255, -256, math.MinInt, math.MaxInt, 1 << 32, 1<<32 + 1} {
		wants(t, "P9.4 Drop of a page that none has", b.drop(page), 0)
	}
	wants(t, "P9.4 Drop of two that lead to each other, and to themselves", b.drop(1), 2)
	want := slices.Concat(make([]uint32, 14), lay(enter(1, 2), ldc(1, 0), ifs(1, 1, 1), leave(1, 0), enter(1, 3), ldc(1, 0), ifon(1, 1, 14), chain(1, 21)))
	if !slices.Equal(b.c.Words(), want) {
		t.Errorf("P9.4 %x, want %x", b.c.Words(), want)
	}
	if table := b.c.Table(); table[0] != (api.Entry{At: -1}) || table[1] != table[0] {
		t.Errorf("P9.4 %v", table)
	}
	wants(t, "P9.4 Drop again", b.drop(1)+b.drop(0)+b.drop(2), 0)
	b.note(2)
	b.note(3)
	wants(t, "P9.4 Drop of the last page", b.drop(255), 1)
	if table := b.c.Table(); table[0] != (api.Entry{At: -1}) || table[1] != (api.Entry{PC: 3, At: 21}) {
		t.Errorf("P9.4 %v", table)
	}
	for page := range 256 {
		wants(t, "P9.4 one without pages stays", b.drop(page), 0)
	}
	if !slices.Equal(b.c.Places(), []uint32{3}) {
		t.Errorf("P9.4 %v", b.c.Places())
	}
}

// Of a leave or an if that does not lead, K is a place, though a dropped block begins at a word of
// that number, and though a dropped one lies at that place.
func TestDropLeavesPlaces(t *testing.T) {
	b := open(t, 100, 4)
	b.insert(9, nil, enter(1, 9), ldc(1, 0), ifs(1, 1, 7), leave(1, 7))
	b.insert(20, []int{4}, enter(1, 20), leave(1, 7))
	b.insert(30, nil, enter(1, 30), ldc(1, 0), ifs(1, 1, 20), leave(1, 20), li(0, 7))
	b.insert(7, nil, enter(1, 7), leave(1, 7))
	was := b.c.Words()
	wants(t, "Drop", b.drop(4), 1)
	clear(was[7:11])
	if !slices.Equal(b.c.Words(), was) {
		t.Errorf("P9.4 %x, want %x", b.c.Words(), was)
	}
	// The place 7 has a block at word 20: a chain there leads to the number of a dropped place.
	wants(t, "Link", b.link(3), api.OK)
	wants(t, "K", b.c.Words()[4], 20)
	b.insert(20, []int{4}, enter(1, 20), leave(1, 7))
	wants(t, "Drop", b.drop(4), 1)
	wants(t, "K", b.c.Words()[4], 20)
	wants(t, "it leads still", b.link(3), api.ErrArg)
}

// Instructions whose numbers look like what leads to the dropped block stay as they are.
func TestDropLeavesNumbers(t *testing.T) {
	b := open(t, 100, 4)
	b.insert(40, []int{4}, enter(1, 40))
	b.insert(9, nil, enter(1, 9), li(1, 0x1000f), stop(1, 1, 0x1000f, 0), stop(1, 0, 0x10060, 0), watch(0, 0), leave(1, 40))
	wants(t, "Link", b.link(14), api.OK)
	wants(t, "Drop", b.drop(4), 1)
	want := append([]uint32{0, 0}, lay(enter(1, 9), li(1, 0x1000f), stop(1, 1, 0x1000f, 0), stop(1, 0, 0x10060, 0), watch(0, 0), leave(1, 40))...)
	if !slices.Equal(b.c.Words(), want) {
		t.Errorf("P9.4 %x, want %x", b.c.Words(), want)
	}
}

func TestFlush(t *testing.T) {
	for _, slots := range []int{1, 3, 65536} {
		b := filled(t, 100, slots, 5)
		b.drop(2)
		b.flush()
		if len(b.c.Places()) != 0 || b.c.Used() != 0 || len(b.c.Words()) != 0 {
			t.Error("P9.4 Flush")
		}
		for page := -1; page < 257; page++ {
			wants(t, "Drop behind Flush", b.drop(page), 0)
		}
		for at := -1; at < 25; at++ {
			wants(t, "Link behind Flush", b.link(at), api.ErrArg)
		}
		b.flush()
		wants(t, "Run behind Flush", second(b.run(0, api.Context{}, mem.New(), 9)), api.Left{Kind: api.LeftStuck})
	}
}

func second[A, B any](_ A, b B) B { return b }

// Who changes a list that he handed in, or was answered, changes no cache.
func TestListsAreApart(t *testing.T) {
	b := filled(t, 40, 4, 3)
	pages, list := []int{7, 8}, []api.Code{enter(1, 9), leave(1, 0)}
	code := lay(list...)
	b.insertWords(9, pages, list, code, false)
	b.note(9)
	clear(code)
	pages[0], pages[1] = 100, 101
	b.same("a change of what was handed in")
	clear(b.c.Words())
	clear(b.c.Places())
	clear(b.c.Table())
	words, places, table := b.c.Words(), b.c.Places(), b.c.Table()
	_ = append(words, 1)
	_ = append(append(words[:2], 99), 99)
	places[0], table[0] = 77, api.Entry{PC: 5, At: 5}
	b.same("a change of what was answered")
	wants(t, "P9.3 Link", b.link(14), api.OK)
	wants(t, "P9.5 Run", second(b.run(0, api.Context{}, mem.New(), 7)).N, 7)
	words, places, table = b.c.Words(), b.c.Places(), b.c.Table()
	wasWords, wasPlaces, wasTable := slices.Clone(words), slices.Clone(places), slices.Clone(table)
	wants(t, "P9.4 Drop of the pages that it does not have", b.drop(100)+b.drop(101), 0)
	wants(t, "P9.4 Drop", b.drop(8)+b.drop(0), 2)
	b.flush()
	b.insert(60, nil, enter(5, 60), leave(5, 60))
	b.note(60)
	if !slices.Equal(words, wasWords) || !slices.Equal(places, wasPlaces) || !slices.Equal(table, wasTable) {
		t.Error("P0 an answer is another now")
	}
}

// Caches do not hang on each other.
func TestCachesAreApart(t *testing.T) {
	b, d := filled(t, 40, 4, 3), filled(t, 40, 4, 3)
	b.drop(1)
	d.same("Drop of another")
	b.flush()
	d.same("Flush of another")
	d.insert(9, nil, enter(1, 9), leave(1, 0))
	b.same("Insert of another")
}

func TestRun(t *testing.T) {
	b := open(t, 100, 4)
	b.insert(10, []int{1}, enter(1, 10), ldc(1, 0), ifs(1, 1, 20), li(2, 5), stc(2, 0), leave(1, 10))
	b.insert(20, []int{2}, enter(2, 20), ldc(1, 1), leavet(1, 2))
	run := func(what string, at int, x api.Context, left int, y api.Context, want api.Left) {
		t.Helper()
		z, l := b.run(at, x, mem.New(), left)
		wants(t, "P9.5 "+what, z, y)
		wants(t, "P9.5 "+what, l, want)
	}
	stuck := func(at int) api.Left { return api.Left{Kind: api.LeftStuck, At: at} }
	zero, five := api.Context{}, api.Context{5}
	run("one block", 0, zero, 9, five, api.Left{Kind: api.LeftOn, PC: 10, N: 1, At: 8})
	run("too few left", 0, zero, 0, zero, api.Left{Kind: api.LeftShort, PC: 10})
	for _, at := range []int{1, 2, 3, 5, 8, 9, 11, 12, 13, 14, 15, 99, 100, 101, -1, math.MinInt, math.MaxInt} {
		run("a word where no block begins", at, zero, 9, zero, stuck(at))
	}
	b.link(8)
	run("chained", 0, zero, 9, five, api.Left{Kind: api.LeftOn, PC: 20, N: 2, At: 3})
	b.link(3)
	run("and by an ifon", 0, zero, 9, five, api.Left{Kind: api.LeftTo, PC: 0, N: 4, At: 13})
	to := api.Context{0, 10}
	run("a table that leads nowhere", 10, to, 9, to, api.Left{Kind: api.LeftTo, PC: 10, N: 2, At: 13})
	b.note(10)
	run("one that leads on", 10, to, 4, api.Context{5, 10}, api.Left{Kind: api.LeftShort, PC: 20, N: 4, At: 10})
	run("the same slot, another place", 10, api.Context{0, 14}, 9, api.Context{0, 14}, api.Left{Kind: api.LeftTo, PC: 14, N: 2, At: 13})
	b.drop(1)
	run("behind a drop", 10, to, 9, to, api.Left{Kind: api.LeftTo, PC: 10, N: 2, At: 13})
	run("what was dropped", 0, to, 9, to, stuck(0))
	if _, l := b.c.Run(10, to, nil, 9); l.Kind != api.LeftTo {
		t.Errorf("P0 without a memory: %+v", l)
	}
}

// The memory is the one that is handed in: it is read, written, and asked whether it is touched.
func TestRunMemory(t *testing.T) {
	c, _ := cache.New(20, 1)
	var code []uint32
	code = append(code, lay(enter(1, 10), li(1, 300), li(2, 77))...)
	code = append(code, api.HStore|2<<8|1<<12, 10)
	code = append(code, lay(watch(1, 12), leave(1, 13))...)
	if at, err := c.Insert(10, []int{0}, code); at != 0 || err != api.OK {
		t.Fatalf("%d, %d", at, err)
	}
	m := mem.New()
	_, l := c.Run(0, api.Context{}, m, 5)
	wants(t, "P9.5 without rights", l, api.Left{Kind: api.LeftStop, Stop: api.Stop{Kind: api.StopStore, Arg: 300}, PC: 10, At: 6})
	m.Protect(1, api.Write)
	_, l = c.Run(0, api.Context{}, m, 5)
	wants(t, "P9.5 with them", l, api.Left{Kind: api.LeftOn, PC: 13, N: 1, At: 10})
	b, _ := m.Peek(300, 1)
	wants(t, "P9.5 the byte", b[0], 77)
	m.Mark(1, true)
	_, l = c.Run(0, api.Context{}, m, 5)
	wants(t, "P9.5 a page that is watched", l, api.Left{Kind: api.LeftOn, PC: 12, N: 1, At: 8})
	_, l = c.Run(0, api.Context{}, m, 5)
	wants(t, "P9.5 a memory that is touched", l, api.Left{Kind: api.LeftOn, PC: 10})
}
