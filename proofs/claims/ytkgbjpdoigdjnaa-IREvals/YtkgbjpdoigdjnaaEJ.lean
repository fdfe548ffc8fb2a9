import Derived.Test.YtkgbjpdoigdjnaaEI
namespace Go.Proofs.Ytkgbjpdoigdjnaa
open Go.RowKit
set_option maxRecDepth 100000
set_option linter.unusedVariables false
set_option linter.unusedSimpArgs false
def updC (c : Nat → Nat) (i x : Nat) : Nat → Nat := fun j => if j = i then x else c j
theorem WkC.of {w w' : World} {P V X n : Nat} {c v : Nat → Nat} (h : WkC w P V X n c v) (hc : ∀ o, w'.cell? ⟨P, o, none⟩ = w.cell? ⟨P, o, none⟩) (hv : ∀ o, w'.cell? ⟨V, o, none⟩ = w.cell? ⟨V, o, none⟩) : WkC w' P V X n c v :=
  ⟨fun i hi => (hc i).trans (h.cc i hi), (hc 12).trans h.cm, (hc 13).trans h.cs, fun i hi => (hv i).trans (h.cv i hi)⟩
theorem WkC.drew {w : World} {P V X n : Nat} {c v : Nat → Nat} (h : WkC w P V X n c v) : WkC w.drew P V X n c v := h.of (fun _ => rfl) (fun _ => rfl)
theorem WkC.drewN {w : World} {P V X n : Nat} {c v : Nat → Nat} (h : WkC w P V X n c v) (q : Nat) : WkC (w.drewN q) P V X n c v := h.of (fun _ => rfl) (fun _ => rfl)
theorem WkC.set {w : World} {P V X n B o : Nat} {c v : Nat → Nat} (h : WkC w P V X n c v) (hP : P ≠ B) (hV : V ≠ B) (u : Value) (_ : True) : WkC (w.setCell ⟨B, o, none⟩ u) P V X n c v := h.of (fun _ => cell_setOther u hP _) (fun _ => cell_setOther u hV _)
theorem WkC.alloc {w : World} {P V X n : Nat} {c v : Nat → Nat} (h : WkC w P V X n c v) (x : Obj) (hn : 0 < n) : WkC (w.alloc x) P V X n c v := by
  have lP := lt_of_cell h.cs
  have lV := lt_of_cell (h.cv 0 hn)
  have hB := (Below.refl w.heap.size w).alloc (Nat.le_refl _) x
  exact h.of (fun o => hB.cell (p := ⟨P, o, none⟩) lP) (fun o => hB.cell (p := ⟨V, o, none⟩) lV)
theorem WkC.put {w : World} {P V X n i : Nat} {c v : Nat → Nat} (h : WkC w P V X n c v) (hi : i < 12) (hV : V ≠ P) (x : Nat) : WkC (w.setCell ⟨P, i, none⟩ (.int .u32 x)) P V X n (updC c i x) v := by
  have hu := h.cc i hi
  refine ⟨fun j hj => ?_, ?_, ?_, fun j hj => (cell_setOther _ hV _).trans (h.cv j hj)⟩
  · rw [cell_setCell _ hu]
    unfold updC
    by_cases e : j = i
    · simp [e]
    · simp [e, h.cc j hj]
  · rw [cell_setCell _ hu, if_neg (by omega)]; exact h.cm
  · rw [cell_setCell _ hu, if_neg (by omega)]; exact h.cs
end Go.Proofs.Ytkgbjpdoigdjnaa
