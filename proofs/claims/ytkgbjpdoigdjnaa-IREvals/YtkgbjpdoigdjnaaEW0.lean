import Derived.Deep.CutRange
import Derived.Test.YtkgbjpdoigdjnaaER
import Derived.Test.YtkgbjpdoigdjnaaEV
namespace Go.Proofs.Ytkgbjpdoigdjnaa
open Go.RowKit
set_option maxRecDepth 100000
set_option linter.unusedVariables false
set_option linter.unusedSimpArgs false
theorem info24 : (Try.prog.info? 24).map (fun i => (i.zero, i.size, i.bytes)) = some (some (.int .u32 0), 1, 4) := by kernel_rfl
theorem made24_cell (w : World) (n i : Nat) (h : i < n) : (w.alloc (.cells (madeCells #[.int .u32 0] n) 24)).cell? ⟨w.heap.size, i, none⟩ = some (.int .u32 0) := by
  rw [row_cell (heap_alloc_last w _)]; exact made_at _ _ _ h
theorem al5 (w : World) (o1 o2 o3 o4 o5 : Obj) : (((((w.alloc o1).alloc o2).alloc o3).alloc o4).alloc o5).heap[w.heap.size + 1]? = some o2 ∧ (((((w.alloc o1).alloc o2).alloc o3).alloc o4).alloc o5).heap[w.heap.size + 1 + 1]? = some o3 ∧ (((((w.alloc o1).alloc o2).alloc o3).alloc o4).alloc o5).heap[w.heap.size + 1 + 1 + 1]? = some o4 ∧ (((((w.alloc o1).alloc o2).alloc o3).alloc o4).alloc o5).heap[w.heap.size + 1 + 1 + 1 + 1]? = some o5 := by
  have l1 := heap_alloc_last (w.alloc o1) o2
  have l2 := heap_alloc_last ((w.alloc o1).alloc o2) o3
  have l3 := heap_alloc_last (((w.alloc o1).alloc o2).alloc o3) o4
  have l4 := heap_alloc_last ((((w.alloc o1).alloc o2).alloc o3).alloc o4) o5
  rw [show (w.alloc o1).heap.size = w.heap.size + 1 by simp] at l1
  rw [show ((w.alloc o1).alloc o2).heap.size = w.heap.size + 1 + 1 by simp] at l2
  rw [show (((w.alloc o1).alloc o2).alloc o3).heap.size = w.heap.size + 1 + 1 + 1 by simp] at l3
  rw [show ((((w.alloc o1).alloc o2).alloc o3).alloc o4).heap.size = w.heap.size + 1 + 1 + 1 + 1 by simp] at l4
  exact ⟨(al_old _ _ _ (by simp <;> omega)).trans ((al_old _ _ _ (by simp <;> omega)).trans ((al_old _ _ _ (by simp)).trans l1)), (al_old _ _ _ (by simp <;> omega)).trans ((al_old _ _ _ (by simp)).trans l2), (al_old _ _ _ (by simp)).trans l3, l4⟩
theorem sx_f (c : Nat → Nat) (pc : Nat) (F : Int) (w : World) : (Instr.field 64 (sxV c pc F) 2).run Try.prog w = .ok (.int .u32 F) w := by
  simp [Instr.field, Try.underlying64, go_sem, part, asAgg]
theorem lvStart (w : World) (B : Array Value) (c : Nat → Nat) (s : MS) (k : RB) (n : Nat) (n0 : 0 < n) (h : RM w k s) :
    LvA w (((((w.alloc (.cells B 82)).alloc (.cells (cxA c) 89)).alloc (.cells #[.int .u32 0, .int .u32 0, .int .u32 0, .int .u32 0, .int .u32 0, .int .u32 0, .int .u32 0, .int .u32 0, .int .u32 0, .int .u32 0, .int .u32 0, .int .u32 0] 89)).alloc (.cells #[.int .i64 0, .int .u32 0, .int .u32 0, .int .i64 0] 93)).alloc (.cells (madeCells #[.int .u32 0] n) 24)) (w.heap.size + 1) (w.heap.size + 1 + 1 + 1 + 1) n k ⟨c, s, fun _ => 0⟩ := by
  have e := al5 w (.cells B 82) (.cells (cxA c) 89) (.cells #[.int .u32 0, .int .u32 0, .int .u32 0, .int .u32 0, .int .u32 0, .int .u32 0, .int .u32 0, .int .u32 0, .int .u32 0, .int .u32 0, .int .u32 0, .int .u32 0] 89) (.cells #[.int .i64 0, .int .u32 0, .int .u32 0, .int .i64 0] 93) (.cells (madeCells #[.int .u32 0] n) 24)
  have b : Below w.heap.size w (((((w.alloc (.cells B 82)).alloc (.cells (cxA c) 89)).alloc (.cells #[.int .u32 0, .int .u32 0, .int .u32 0, .int .u32 0, .int .u32 0, .int .u32 0, .int .u32 0, .int .u32 0, .int .u32 0, .int .u32 0, .int .u32 0, .int .u32 0] 89)).alloc (.cells #[.int .i64 0, .int .u32 0, .int .u32 0, .int .i64 0] 93)).alloc (.cells (madeCells #[.int .u32 0] n) 24)) := (((((Below.refl w.heap.size w).alloc (Nat.le_refl _) _).alloc (by simp) _).alloc (by simp; omega) _).alloc (by simp; omega) _).alloc (by simp; omega) _
  have hs : ((((w.alloc (.cells B 82)).alloc (.cells (cxA c) 89)).alloc (.cells #[.int .u32 0, .int .u32 0, .int .u32 0, .int .u32 0, .int .u32 0, .int .u32 0, .int .u32 0, .int .u32 0, .int .u32 0, .int .u32 0, .int .u32 0, .int .u32 0] 89)).alloc (.cells #[.int .i64 0, .int .u32 0, .int .u32 0, .int .i64 0] 93)).heap.size = w.heap.size + 1 + 1 + 1 + 1 := by simp
  refine ⟨⟨e.1, fun i hi => ?_, ⟨fun j => row_fr e.2.2.2 j⟩, h.below b (Nat.le_refl _), n0, by omega, fun x hx => by have := h.lt x hx; omega⟩, e.2.1, e.2.2.1, Chg.of_below _ b, h.lt, by omega, by omega⟩
  have := made24_cell ((((w.alloc (.cells B 82)).alloc (.cells (cxA c) 89)).alloc (.cells #[.int .u32 0, .int .u32 0, .int .u32 0, .int .u32 0, .int .u32 0, .int .u32 0, .int .u32 0, .int .u32 0, .int .u32 0, .int .u32 0, .int .u32 0, .int .u32 0] 89)).alloc (.cells #[.int .i64 0, .int .u32 0, .int .u32 0, .int .i64 0] 93)) n i hi
  rw [hs] at this
  exact this
theorem RM.setN {w : World} {k : RB} {s : MS} {B o : Nat} (h : RM w k s) (hk : ∀ x ∈ k.y :: k.all, x ≠ B) (u : Value) : RM (w.setCell ⟨B, o, none⟩ u) k s := h.of_blocks (fun x hx => blk_other (hk x hx) u)
theorem lvB (w wr : World) (C V n : Nat) (k : RB) (q : Sq) (o : OpR) (h : LvA w wr C V n k q) : LvB w ((wr.alloc (.cells #[.int .i64 o.kind, .int .i64 o.w, .int .i64 o.a, .int .i64 o.b, .int .i64 o.c, .int .u32 o.k, .int .i64 o.n] 163)).alloc (.cells #[.int .i64 0, .int .u32 0, .int .u32 o.k, .int .i64 o.n] 93)) C V wr.heap.size n k q o ⟨0, 0, o.k, o.n⟩ :=
  ⟨h.below (((Below.refl _ _).alloc (Nat.le_refl _) _).alloc (by simp) _), (al_old _ _ _ (by simp)).trans (heap_alloc_last wr _), by
    have := heap_alloc_last (wr.alloc (.cells #[.int .i64 o.kind, .int .i64 o.w, .int .i64 o.a, .int .i64 o.b, .int .i64 o.c, .int .u32 o.k, .int .i64 o.n] 163)) (.cells #[.int .i64 0, .int .u32 0, .int .u32 o.k, .int .i64 o.n] 93)
    rwa [show (wr.alloc (.cells #[.int .i64 o.kind, .int .i64 o.w, .int .i64 o.a, .int .i64 o.b, .int .i64 o.c, .int .u32 o.k, .int .i64 o.n] 163)).heap.size = wr.heap.size + 1 by simp] at this, h.r.lV⟩
end Go.Proofs.Ytkgbjpdoigdjnaa
