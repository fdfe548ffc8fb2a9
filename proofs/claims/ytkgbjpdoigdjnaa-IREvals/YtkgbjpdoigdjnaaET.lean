import Derived.Test.YtkgbjpdoigdjnaaJ01
namespace Go.Proofs.Ytkgbjpdoigdjnaa
open Go.RowKit
set_option maxRecDepth 100000
set_option linter.unusedVariables false
theorem cnt_down (T : Nat → Bool) (n p : Nat) (h : p < n) (hT : T p = true) : cnt (upd T p false) n + 1 = cnt T n := by
  induction n with
  | zero => omega
  | succ n ih =>
    simp only [cnt]
    by_cases e : n = p
    · subst e; rw [cnt_upd_out _ _ _ _ (Nat.le_refl _), upd_same, hT]; simp
    · have := ih (by omega); rw [upd_other _ _ _ _ e]; omega
theorem cnt_pos (T : Nat → Bool) (n p : Nat) (h : p < n) (hT : T p = true) : 0 < cnt T n := by
  have := cnt_down T n p h hT; omega
def touchB (s : MS) : Bool := decide (0 < cnt s.T 256)
theorem touched_any (X : Nat) (s : MS) (w : World) (h : PM w X s) :
    Calls Try.prog 50 #[.pointer (some ⟨X, 0, none⟩)] w fun e w' => e = .returned (.bool (touchB s)) ∧ w = w' := by
  have c3 := h.te
  have hn := cnt_le s.T 256
  unfold touchB
  by_cases hp : 0 < cnt s.T 256
  · rw [decide_eq_true hp]
    have hi : (0 : Int) < cnt s.T 256 := by omega
    go_enter Try.func50, Try.ntmps50
    go_wp2
    go_ret
    exact ⟨rfl, rfl⟩
  · rw [decide_eq_false hp]
    have hi : ¬ (0 : Int) < cnt s.T 256 := by omega
    go_enter Try.func50, Try.ntmps50
    go_wp2
    go_ret
    exact ⟨rfl, rfl⟩
theorem rtouched_any (k : RB) (s : MS) (w : World) (h : RM w k s) :
    Calls Try.prog 51 #[.pointer (some ⟨k.y, 0, none⟩)] w fun e w' => e = .returned (.bool (touchB s)) ∧ w = w' := by
  have d3 := h.c3
  go_enter Try.func51, Try.ntmps51
  go_wp2
  go_loop [10] (fun i => ∃ j : Nat, j ≤ 256 ∧ i = .int .i64 j ∧ ∀ p, p < j → s.T p = false) (fun i => 256 - (intOf i).toNat)
  case atStart => exact ⟨0, by omega, rfl, fun p hp => by omega⟩
  case round =>
    obtain ⟨j, hj, rfl, hf⟩ := hrel
    have HF : Hid (∀ p, p < j → s.T p = false) := hf
    clear hf
    by_cases hlt : j < 256
    · have c := h.to j hlt
      have hji : (j : Int) < 256 := by omega
      have hj0 : (0 : Int) ≤ j := by omega
      cases hT : s.T j
      · rw [hT] at c
        have HT : Hid (s.T j = false) := hT
        clear hT
        go_wp2
        go_round
        case rel => exact ⟨j + 1, by omega, by go_num, fun p hp => by
          by_cases e : p = j
          · subst e; exact HT.out
          · exact HF.out p (by omega)⟩
        case measure => simp [intOf]; omega
      · rw [hT] at c
        have HE : Hid (touchB s = true) := decide_eq_true (cnt_pos s.T 256 j hlt hT)
        clear hT
        go_wp2
        go_ret
        exact ⟨(congrArg (fun b => Ending.returned (Value.bool b)) HE.out).symm, rfl⟩
    · have HE : Hid (touchB s = false) := by
        have : j = 256 := by omega
        subst this
        show touchB s = false
        unfold touchB
        rw [cnt_none s.T 256 HF.out]; rfl
      go_wp2
      go_ret
      exact ⟨(congrArg (fun b => Ending.returned (Value.bool b)) HE.out).symm, rfl⟩

end Go.Proofs.Ytkgbjpdoigdjnaa
