package rule_test

import (
	"math"
	"slices"
	"testing"

	"crossgrain/rule"
)

// The table once more, column by column: which kinds have what.
func TestOf(t *testing.T) {
	takes := map[int][]int{0: {1, 2, 11, 14, 15, 17}, 1: {3, 5, 8, 9, 12, 13, 16}, 2: {4, 10}, 3: {6, 7}}
	high := map[int]int{2: 11, 3: 11, 4: 15, 5: 6, 7: 12, 8: 15, 9: 4, 10: 2, 13: 7, 14: 7}
	in := func(kind int, kinds ...int) bool { return slices.Contains(kinds, kind) }
	for kind := 1; kind <= 17; kind++ {
		r := rule.Of(kind)
		if !rule.IsKind(kind) || !in(kind, takes[int(r.Takes)]...) || int(r.High) != high[kind] || (r.Low == 1) != in(kind, 13, 14) || r.Low > 1 {
			t.Errorf("kind %d: %+v", kind, r)
		}
		if r.Gives != in(kind, 1, 2, 4, 5, 6, 7, 8, 9, 17) || r.Leaves != in(kind, 9, 10, 11, 12, 13, 14, 15, 16) || r.Ends != in(kind, 14, 15, 16) {
			t.Errorf("kind %d: %+v", kind, r)
		}
		if (r.Has&rule.K != 0) != in(kind, 1, 9, 10, 11, 12, 13, 14, 15) || (r.Has&rule.N != 0) != in(kind, 9, 10, 11, 12, 13, 14, 15, 16) || (r.Has&rule.Number != 0) != in(kind, 14) {
			t.Errorf("kind %d: %+v", kind, r)
		}
	}
}

func TestOfNoKind(t *testing.T) {
	for _, kind := range []int{0, -1, 18, 256, math.MaxInt, math.MinInt} {
		if rule.IsKind(kind) || rule.Of(kind) != (rule.Rule{}) {
			t.Errorf("kind %d: %+v", kind, rule.Of(kind))
		}
	}
}
