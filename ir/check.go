package ir

import (
	"math"

	"crossgrain/api"
	"crossgrain/rule"
)

// maxBytes is the most bytes of the guest that a block has: no instruction has more than six.
const maxBytes = 6 * api.MaxBlock

// within: is it from 0 to most?
func within(n, most int) bool { return n >= 0 && n <= most }

// checkOp: the first error of the operation i; those ahead of it have none.
func checkOp(b api.Block, i int) api.Errno {
	o := b.Ops[i]
	r := rule.Of(o.Kind)
	switch {
	case !rule.IsKind(o.Kind) || o.W < int(r.Low) || o.W > int(r.High):
		return api.ErrOp
	case !fields(r, o, b.Count):
		return api.ErrField
	case !taken(r, o, b.Ops[:i]):
		return api.ErrTemp
	case r.Ends && i != len(b.Ops)-1:
		return api.ErrForm
	}
	return api.OK
}

// fields: is each what it may be, but for the numbers of operations?
func fields(r rule.Rule, o api.Op, count int) bool {
	number := r.Has&rule.Number != 0
	list := [...]struct{ may, has bool }{
		{r.Takes >= 1, o.A != 0},
		{r.Takes >= 2 || number, o.B != 0},
		{r.Takes >= 3, o.C != 0},
		{r.Has&rule.K != 0, o.K != 0},
		{r.Has&rule.N != 0, o.N != 0},
	}
	for _, f := range list {
		if f.has && !f.may {
			return false
		}
	}
	if number && (o.B < 0 || int64(o.B) > math.MaxUint32) {
		return false
	}
	return within(o.N, count)
}

// taken: is each value that it takes given by an operation ahead of it?
func taken(r rule.Rule, o api.Op, ahead []api.Op) bool {
	list := [...]int{o.A, o.B, o.C}
	for _, n := range list[:r.Takes] {
		if !within(n, len(ahead)-1) || !Gives(ahead[n].Kind) {
			return false
		}
	}
	return true
}
