package cache

import (
	"crossgrain/api"
	"crossgrain/host"
)

// block is where the code of one lies, and in which pages its guest's bytes do.
type block struct {
	begin, size int
	pages       pageSet
}

// setBits is how many pages one number of a set tells of.
const setBits = 64

// pageSet is pages: it is as small for a list in which a page is told a thousand
// times as for any other.
type pageSet [api.Pages / setBits]uint64

func isPage(page int) bool { return page >= 0 && page < api.Pages }

// setOf: the set of a list, if all of it are pages.
func setOf(list []int) (pageSet, bool) {
	var s pageSet
	for _, page := range list {
		if !isPage(page) {
			return pageSet{}, false
		}
		s[page/setBits] |= 1 << (page % setBits)
	}
	return s, true
}

func (s *pageSet) has(page int) bool {
	return isPage(page) && s[page/setBits]>>(page%setBits)&1 != 0
}

// part is an instruction leave or if in a block's code: its first word there,
// and the guest's place to which it goes.
type part struct {
	at int
	to uint32
}

// exitsOf: the leaves and ifs of code, if it is that of a block at pc.
func exitsOf(pc uint32, code []uint32) ([]part, bool) {
	var list []part
	ok := walk(code, func(at int, x api.Code) bool {
		if x.Op == api.HLeave || x.Op == api.HIf {
			list = append(list, part{at, x.K})
		}
		if at == 0 {
			return x.Op == api.HEnter && x.K == pc
		}
		return x.Op != api.HEnter && x.Op != api.HChain && x.Op != api.HIfOn
	})
	return list, ok && len(code) > 0
}

// walk: is each word of code an instruction's, and is each of these, with its first word, let through?
func walk(code []uint32, through func(at int, x api.Code) bool) bool {
	for at := 0; at < len(code); {
		x, n, err := host.Decode(code, at)
		if err != api.OK || !through(at, x) {
			return false
		}
		at += n
	}
	return true
}
