package mem

import "crossgrain/api"

// Mark: a page is watched, or no longer.
func (m *Memory) Mark(page int, on bool) api.Errno {
	if !isPage(page) {
		return api.ErrArg
	}
	m.watched[page] = on
	if !on && m.told[page] {
		m.told[page] = false
		m.tells--
	}
	return api.OK
}

// Touched: was a watched page changed since Changed was asked?
func (m *Memory) Touched() bool { return m.tells > 0 }

// Changed: the watched pages that were changed since this was asked.
func (m *Memory) Changed() []int {
	pages := make([]int, 0, m.tells)
	for page, told := range m.told {
		if told {
			pages = append(pages, page)
		}
	}
	clear(m.told[:])
	m.tells = 0
	return pages
}

// change tells the pages of n bytes; of no bytes there is none, not even that of at.
func (m *Memory) change(at, n int) {
	if n == 0 {
		return
	}
	for page := at / api.PageSize; page <= (at+n-1)/api.PageSize; page++ {
		m.tell(page)
	}
}

// tell leaves out what is not watched: a page watched later is not told of changes ahead of that.
func (m *Memory) tell(page int) {
	if m.watched[page] && !m.told[page] {
		m.told[page] = true
		m.tells++
	}
}
