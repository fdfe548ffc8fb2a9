import Derived.Test.YtgkkghphlbgcoaaHR
import Derived.Test.YtgkkghphlbgcoaaHP
namespace Go.Proofs.Ytgkkghphlbgcoaa.Ho
open Go.RowKit
set_option maxRecDepth 100000
set_option linter.unusedVariables false
set_option linter.unusedSimpArgs false
structure RE2 (w W : World) (x : Cd) (b n : Nat) : Prop where
  bx : W.heap[w.heap.size]? = some (.cells (cdA x) 41)
  wr : WR W b 0 n (wsF (wsE n (fst x).toNat x.k x.x))
  gb : w.heap.size ≤ b
  bel : Below w.heap.size w W
theorem RE2.drw {w W : World} {x : Cd} {b n : Nat} (h : RE2 w W x b n) : RE2 w W.drew x b n := ⟨h.bx, ⟨h.wr.cell, h.wr.lt, h.wr.lb⟩, h.gb, h.bel.drew⟩
theorem fst_nat (x : Cd) : fst x = ((fst x).toNat : Int) ∧ (fst x).toNat < 4294967296 := by unfold fst; omega
theorem re2_start1 {w W : World} {x : Cd} (h : RE1 w W x) (hk : x.k < 4294967296) (hy : x.x < 4294967296) : RE2 w ((W.alloc (.cells (cdA x) 41)).alloc (.cells #[.int .u32 (fst x), .int .u32 x.k, .int .u32 x.x] 30)).drew x (W.heap.size + 1) 1 := by
  have l1 := row_lt h.bx
  have e2 := heap_alloc_last (W.alloc (.cells (cdA x) 41)) (.cells #[.int .u32 (fst x), .int .u32 x.k, .int .u32 x.x] 30)
  simp only [World.size_alloc] at e2
  have hs := h.bel.size
  obtain ⟨f1, f2⟩ := fst_nat x
  refine ⟨?_, ⟨fun i hi => ?_, fun i => ?_, by simp⟩, by omega, ((h.bel.alloc hs _).alloc (by simp; omega) _).drew⟩
  · show ((W.alloc _).alloc _).heap[w.heap.size]? = _
    rw [Below.heap_alloc _ _ _ (by simp; omega), Below.heap_alloc _ _ _ l1]; exact h.bx
  · refine (row_cell (show ((W.alloc (.cells (cdA x) 41)).alloc (.cells #[.int .u32 (fst x), .int .u32 x.k, .int .u32 x.x] 30)).drew.heap[W.heap.size + 1]? = _ from e2) _).trans ?_
    rw [Nat.zero_add]
    rcases (by omega : i = 0) with rfl
    · show some (Value.int .u32 (fst x)) = some (.int .u32 ((fst x).toNat : Int)); rw [← f1]
  · rcases i with _ | _ | _ | i <;> simp [wsF, wsE] <;> omega
theorem re2_start2 {w W : World} {x : Cd} (h : RE1 w W x) (hk : x.k < 4294967296) (hy : x.x < 4294967296) : RE2 w ((W.alloc (.cells (cdA x) 41)).alloc (.cells #[.int .u32 (fst x), .int .u32 x.k, .int .u32 x.x] 30)).drew x (W.heap.size + 1) 2 := by
  have l1 := row_lt h.bx
  have e2 := heap_alloc_last (W.alloc (.cells (cdA x) 41)) (.cells #[.int .u32 (fst x), .int .u32 x.k, .int .u32 x.x] 30)
  simp only [World.size_alloc] at e2
  have hs := h.bel.size
  obtain ⟨f1, f2⟩ := fst_nat x
  refine ⟨?_, ⟨fun i hi => ?_, fun i => ?_, by simp⟩, by omega, ((h.bel.alloc hs _).alloc (by simp; omega) _).drew⟩
  · show ((W.alloc _).alloc _).heap[w.heap.size]? = _
    rw [Below.heap_alloc _ _ _ (by simp; omega), Below.heap_alloc _ _ _ l1]; exact h.bx
  · refine (row_cell (show ((W.alloc (.cells (cdA x) 41)).alloc (.cells #[.int .u32 (fst x), .int .u32 x.k, .int .u32 x.x] 30)).drew.heap[W.heap.size + 1]? = _ from e2) _).trans ?_
    rw [Nat.zero_add]
    rcases (by omega : i = 0 ∨ i = 1) with rfl | rfl
    · show some (Value.int .u32 (fst x)) = some (.int .u32 ((fst x).toNat : Int)); rw [← f1]
    · rfl
  · rcases i with _ | _ | _ | i <;> simp [wsF, wsE] <;> omega
theorem re2_start3 {w W : World} {x : Cd} (h : RE1 w W x) (hk : x.k < 4294967296) (hy : x.x < 4294967296) : RE2 w ((W.alloc (.cells (cdA x) 41)).alloc (.cells #[.int .u32 (fst x), .int .u32 x.k, .int .u32 x.x] 30)).drew x (W.heap.size + 1) 3 := by
  have l1 := row_lt h.bx
  have e2 := heap_alloc_last (W.alloc (.cells (cdA x) 41)) (.cells #[.int .u32 (fst x), .int .u32 x.k, .int .u32 x.x] 30)
  simp only [World.size_alloc] at e2
  have hs := h.bel.size
  obtain ⟨f1, f2⟩ := fst_nat x
  refine ⟨?_, ⟨fun i hi => ?_, fun i => ?_, by simp⟩, by omega, ((h.bel.alloc hs _).alloc (by simp; omega) _).drew⟩
  · show ((W.alloc _).alloc _).heap[w.heap.size]? = _
    rw [Below.heap_alloc _ _ _ (by simp; omega), Below.heap_alloc _ _ _ l1]; exact h.bx
  · refine (row_cell (show ((W.alloc (.cells (cdA x) 41)).alloc (.cells #[.int .u32 (fst x), .int .u32 x.k, .int .u32 x.x] 30)).drew.heap[W.heap.size + 1]? = _ from e2) _).trans ?_
    rw [Nat.zero_add]
    rcases (by omega : i = 0 ∨ i = 1 ∨ i = 2) with rfl | rfl | rfl
    · show some (Value.int .u32 (fst x)) = some (.int .u32 ((fst x).toNat : Int)); rw [← f1]
    · rfl
    · rfl
  · rcases i with _ | _ | _ | i <;> simp [wsF, wsE] <;> omega
theorem re3_start {w W w3 : World} {x : Cd} {b n : Nat} (y : Cd) (h : RE2 w W x b n) (h3 : Below W.heap.size W w3) : EN2 w (w3.alloc (.cells (cdA y) 41)) x y w3.heap.size b n (wsF (wsE n (fst x).toNat x.k x.x)) := by
  have l1 := row_lt h.bx
  have s3 := h3.size
  have s1 := h.bel.size
  refine ⟨?_, heap_alloc_last _ _, ⟨fun i hi => ?_, h.wr.lt, ?_⟩, h.gb, (h.bel.trans (h3.mono s1)).alloc (by omega) _⟩
  · rw [Below.heap_alloc _ _ _ (by omega), h3.block _ l1]; exact h.bx
  · rw [World.cell?_alloc_past _ _ _ (by have := h.wr.lb; show b < _; omega), h3.cell (p := ⟨b, 0 + i, none⟩) h.wr.lb]; exact h.wr.cell i hi
  · have := h.wr.lb; simp; omega
end Go.Proofs.Ytgkkghphlbgcoaa.Ho
