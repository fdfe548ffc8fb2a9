import Derived.Test.YtkgbjpdoigdjnacWJ01
namespace Go.Proofs.Ytkgbjpdoigdjnac
open Go.RowKit
set_option maxRecDepth 100000
set_option linter.unusedVariables false
theorem cnt_down (T : Nat → Bool) (n p : Nat) (h : p < n) (hT : T p = true) : cnt (upd T p false) n + 1 = cnt T n := by
  induction n with
  | zero => omega
  | succ n ih =>
    simp only [cnt]
    by_cases e : n = p
    · subst e; rw [cnt_upd_out _ _ _ _ (Nat.le_refl _), upd_same, hT]; simp
    · have := ih (by omega); rw [upd_other _ _ _ _ e]; omega
theorem cnt_pos (T : Nat → Bool) (n p : Nat) (h : p < n) (hT : T p = true) : 0 < cnt T n := by
  have := cnt_down T n p h hT; omega
end Go.Proofs.Ytkgbjpdoigdjnac
