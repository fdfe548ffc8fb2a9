import Derived.Test.YtkhaajbhgenicaaMD
namespace Go.Proofs.Ytkhaajbhgenicaa
open Go.RowKit
set_option maxRecDepth 100000

/-! ## Pages that are told -/
def tellR (s : MS) (lo hi : Nat) : MS := { s with T := fun p => s.T p || (s.M p && decide (lo ≤ p ∧ p < hi)) }
theorem tellR_none (s : MS) (lo : Nat) : tellR s lo lo = s := by
  have : (fun p => s.T p || (s.M p && decide (lo ≤ p ∧ p < lo))) = s.T := by
    funext p
    rw [decide_eq_false (by omega)]; simp
  simp only [tellR, this]
theorem tellR_next (s : MS) (lo hi : Nat) (h : lo ≤ hi) : tellS (tellR s lo hi) hi = tellR s lo (hi + 1) := by
  have hM : (tellR s lo hi).M hi = s.M hi := rfl
  have key : ∀ T', (∀ p, T' p = (tellR s lo (hi + 1)).T p) → ({ tellR s lo hi with T := T' } : MS) = tellR s lo (hi + 1) := by
    intro T' h; have : T' = (tellR s lo (hi + 1)).T := funext h; subst this; rfl
  unfold tellS
  rw [hM]
  cases hm : s.M hi
  · rw [if_neg (by simp)]
    refine key (tellR s lo hi).T (fun p => ?_)
    simp only [tellR]
    by_cases e : p = hi
    · subst e; rw [hm]; simp
    · congr 2; exact decide_eq_decide.2 (by omega)
  · rw [if_pos rfl]
    refine key _ (fun p => ?_)
    simp only [tellR, upd]
    by_cases e : p = hi
    · subst e; rw [if_pos rfl, hm, decide_eq_true (by omega)]; simp
    · rw [if_neg e]; congr 2; exact decide_eq_decide.2 (by omega)

/-- The pages of n bytes. -/
def tellB (s : MS) (at' n : Nat) : MS := if n = 0 then s else tellR s (at' / 256) ((at' + n - 1) / 256 + 1)
theorem tellB_next (s : MS) (at' k : Nat) : tellS (tellB s at' k) ((at' + k) / 256) = tellB s at' (k + 1) := by
  by_cases hk : k = 0
  · subst hk
    have := tellR_next s (at' / 256) (at' / 256) (Nat.le_refl _)
    rw [tellR_none] at this
    simpa [tellB] using this
  · rw [tellB, if_neg hk, tellB, if_neg (by omega), show at' + (k + 1) - 1 = at' + k by omega]
    by_cases e : (at' + k) / 256 = (at' + k - 1) / 256
    · rw [e]
      -- told already
      generalize hq : (at' + k - 1) / 256 = q
      have hlo : at' / 256 ≤ q := by omega
      unfold tellS
      by_cases hm : (tellR s (at' / 256) (q + 1)).M q = true
      · rw [if_pos hm, upd_self]
        have hm' : s.M q = true := hm
        simp [tellR, hm', hlo]
      · rw [if_neg hm]
    · have e2 : (at' + k) / 256 = (at' + k - 1) / 256 + 1 := by omega
      rw [e2]
      exact tellR_next s _ _ (by omega)
theorem tellB_M (s : MS) (a n : Nat) : (tellB s a n).M = s.M := by unfold tellB; split <;> rfl
theorem tellB_B (s : MS) (a n : Nat) : (tellB s a n).B = s.B := by unfold tellB; split <;> rfl
theorem tellB_R (s : MS) (a n : Nat) : (tellB s a n).R = s.R := by unfold tellB; split <;> rfl
theorem tellS_B (s : MS) (p : Nat) : (tellS s p).B = s.B := by unfold tellS; split <;> rfl
theorem tellS_R (s : MS) (p : Nat) : (tellS s p).R = s.R := by unfold tellS; split <;> rfl
theorem tellS_withB (s : MS) (p : Nat) (B : Nat → Int) : tellS { s with B := B } p = { tellS s p with B := B } := by unfold tellS; split <;> rfl
theorem tellB_withB (s : MS) (a n : Nat) (B : Nat → Int) : tellB { s with B := B } a n = { tellB s a n with B := B } := by unfold tellB; split <;> rfl

theorem change_any (X at' n : Nat) (s : MS) (w : World) (hl : at' + n ≤ 65536) (h : PM w X s) :
    Calls Try.prog 59 #[.pointer (some ⟨X, 0, none⟩), .int .i64 at', .int .i64 n] w fun e w' => e = .returned (.tuple #[]) ∧ PM w' X (tellB s at' n) ∧ Chg [X] w w' := by
  by_cases hn : n = 0
  · subst hn
    go_enter Try.func59, Try.ntmps59
    go_wp2
    refine bodyPost_ret (results_none rfl _ _ _) rfl ?_
    exact ⟨rfl, h, Chg.refl _ _⟩
  · have hn0 : (n : Int) ≠ 0 := by omega
    have hn1 : ((n : Int) == 0) = false := by simpa using hn0
    obtain ⟨lo, hlo⟩ : ∃ lo, at' / 256 = lo := ⟨_, rfl⟩
    obtain ⟨hi, hhi⟩ : ∃ hi, (at' + n - 1) / 256 = hi := ⟨_, rfl⟩
    have e : tellB s at' n = tellR s lo (hi + 1) := by rw [tellB, if_neg hn, hlo, hhi]
    rw [e]
    have hlo' : (at' : Int) / 256 = lo := by omega
    have hhi' : ((at' : Int) + n - 1) / 256 = hi := by omega
    have ha0 : (0 : Int) ≤ at' := by omega
    have hn2 : (0 : Int) ≤ n := by omega
    have hle : (at' : Int) + n ≤ 65536 := by omega
    have hge : (0 : Int) ≤ (at' : Int) + n - 1 := by omega
    have hlh : lo ≤ hi := by omega
    have hh : hi < 256 := by omega
    have HLO : Hid (lo ≤ hi ∧ hi < 256) := ⟨hlh, hh⟩
    have HP : Hid (PM w X s) := h
    clear hlo hhi e hn hn0 hlh hh h hl
    go_enter Try.func59, Try.ntmps59
    go_wp2
    go_loopw [6] (fun i wr => ∃ pg : Nat, i = .int .i64 pg ∧ (lo ≤ pg ∧ pg ≤ hi + 1) ∧ PM wr X (tellR s lo pg) ∧ Chg [X] w wr) (fun i _ => hi + 1 - (intOf i).toNat)
    case atStart => exact ⟨lo, rfl, ⟨by omega, by have := HLO.out; omega⟩, by rw [tellR_none]; exact HP.out, Chg.refl _ _⟩
    case round =>
      obtain ⟨pg, rfl, hpg, hPM, hC⟩ := hrel
      have HPG : Hid (lo ≤ pg ∧ pg ≤ hi + 1) := hpg
      have HQ : Hid (PM wr X (tellR s lo pg)) := hPM
      have HC : Hid (Chg [X] w wr) := hC
      clear hpg hPM hC
      by_cases hlt : (pg : Int) ≤ hi
      · have hp256 : pg < 256 := by have := HLO.out; omega
        have hpi : (pg : Int) < 256 := by omega
        have hp0 : (0 : Int) ≤ pg := by omega
        go_wp2_with (go_at_call 55; refine (tell_any X pg _ _ hp256 HQ.out).mono ?_; rintro e w' ⟨rfl, hP', hC'⟩)
        have HQ' : Hid (PM w' X (tellS (tellR s lo pg) pg)) := hP'
        have HC' : Hid (Chg [X] wr w') := hC'
        clear hP' hC'
        go_roundw
        case rel => exact ⟨pg + 1, by go_num, ⟨by have := HPG.out; omega, by omega⟩, by rw [← tellR_next s lo pg HPG.out.1]; exact HQ'.out, HC.out.trans HC'.out⟩
        case measure => simp [intOf]; omega
      · go_wp2
        go_end0
        refine ⟨rfl, ?_, HC.out⟩
        have : pg = hi + 1 := by have := HPG.out; omega
        rw [← this]; exact HQ.out

end Go.Proofs.Ytkhaajbhgenicaa
