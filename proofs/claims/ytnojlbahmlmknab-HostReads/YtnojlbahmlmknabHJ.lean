import Derived.Test.YtnojlbahmlmknabHE
import Derived.Test.YtnojlbahmlmknabHC
import Derived.Test.YtnojlbahmlmknabHF
namespace Go.Proofs.Ytnojlbahmlmknab
open Go.RowKit
set_option maxRecDepth 100000
set_option linter.unusedVariables false
set_option linter.unusedSimpArgs false
theorem has_any (s : Array UInt8) (c : Int) (hs : goodS s) (hc : c = 100 ∨ c = 97 ∨ c = 98 ∨ c = 99 ∨ c = 110) (w : World) : Calls Try.prog 57 #[.string ⟨s⟩, .int .u8 c] w fun e w' => e = .returned (.bool (hasB s c.toNat)) ∧ w = w' := by
  rcases hc with rfl | rfl | rfl | rfl | rfl
  · exact hasA_d s hs w
  · exact hasA_a s hs w
  · exact hasA_b s hs w
  · exact hasA_c s hs w
  · exact hasA_n s hs w
def zCr : Cd := ⟨0, 0, 0, 0, 0, 0, 0, 0⟩
/-- Is it an instruction? -/
def okR (f : Fm) (v : Nat) (x : Cd) : Bool := decide (fst x = v) && !(hasB f.s 110 && decide (f.most ≤ x.n)) && !((decide (x.op = 12) || decide (x.op = 13)) && (decide (x.d < 1) || decide (7 < x.d)))
def rdV (b : Bool) (x : Cd) (n : Nat) : Value :=
  match b with
  | true => .tuple #[cdV x, .int .i64 n, .int .i64 0]
  | false => .tuple #[cdV zCr, .int .i64 0, .int .i64 3]
structure RX (w W : World) (x : Cd) : Prop where
  b : W.heap[w.heap.size + 1]? = some (.cells (cdA x) 57)
  r : W.heap[w.heap.size]? = some (.cells (cdA ⟨0, 0, 0, 0, 0, 0, 0, 0⟩) 57)
  bel : Below w.heap.size w W
theorem rx_start (w : World) (x : Cd) : RX w ((w.alloc (.cells (cdA ⟨0, 0, 0, 0, 0, 0, 0, 0⟩) 57)).alloc (.cells (cdA x) 57)) x := by
  have e1 := heap_alloc_last w (.cells (cdA ⟨0, 0, 0, 0, 0, 0, 0, 0⟩) 57)
  have e2 := heap_alloc_last (w.alloc (.cells (cdA ⟨0, 0, 0, 0, 0, 0, 0, 0⟩) 57)) (.cells (cdA x) 57)
  simp only [World.size_alloc] at e2
  refine ⟨e2, ?_, ((Below.refl _ _).alloc (Nat.le_refl _) _).alloc (by simp) _⟩
  rw [Below.heap_alloc _ _ _ (by simp)]; exact e1
theorem RX.al {w W : World} {x : Cd} (h : RX w W x) (o : Obj) : RX w (W.alloc o) x :=
  ⟨(Below.heap_alloc _ _ _ (row_lt h.b)).trans h.b, (Below.heap_alloc _ _ _ (row_lt h.r)).trans h.r, h.bel.alloc h.bel.size _⟩
end Go.Proofs.Ytnojlbahmlmknab
