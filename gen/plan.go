package gen

import (
	"crossgrain/api"
	"crossgrain/rule"
)

// most is how many values an operation takes at the most.
const most = 3

// plan is what is known of an operation ahead of its code: who asks for its
// value, and for those that it takes, when. Who asks is told by the number of
// the operation; 0 is nobody, for the first operation takes nothing.
type plan struct {
	takes int       // how many values
	after [most]int // who asks for each of them next, behind it
	gives bool
	next  int  // who asks for its own value next
	last  int  // and who at last
	lazy  bool // nothing is laid where it stands, only where its value is taken
}

// taken: the numbers of the values that an operation takes; of those that it does not need, 0.
func taken(o *api.Op) [most]int { return [...]int{o.A, o.B, o.C} }

// plansOf: from the end of a block on, for only what stands behind an operation asks for its value.
func plansOf(ops []api.Op) []plan {
	plans := make([]plan, len(ops))
	var puts [api.Slots]int // the next put of each slot
	for i := len(ops) - 1; i >= 0; i-- {
		o, p := &ops[i], &plans[i]
		r := rule.Of(o.Kind)
		p.takes, p.gives = int(r.Takes), r.Gives
		p.lazy = r.Gives && !r.Leaves && (p.next == 0 || steady(o, p.last, puts))
		if !p.lazy {
			ask(plans, i, taken(o))
		}
		if o.Kind == api.OpPut {
			puts[o.W] = i
		}
	}
	return plans
}

// steady: may the value be made anew wherever it is taken? That of a slot may,
// if the last who takes it stands ahead of the next put of the slot, or is it.
func steady(o *api.Op, last int, puts [api.Slots]int) bool {
	switch o.Kind {
	case api.OpConst:
		return true
	case api.OpGet:
		return puts[o.W] == 0 || last <= puts[o.W]
	}
	return false
}

// ask: the operation i asks for its values.
func ask(plans []plan, i int, list [most]int) {
	p := &plans[i]
	// A value may be taken twice: so who asks next is read of all of them first.
	for j, v := range list[:p.takes] {
		p.after[j] = plans[v].next
	}
	for _, v := range list[:p.takes] {
		plans[v].next = i
		if plans[v].last == 0 {
			plans[v].last = i
		}
	}
}
