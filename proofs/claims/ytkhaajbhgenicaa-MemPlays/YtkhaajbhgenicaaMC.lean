import Derived.Test.YtkhaajbhgenicaaMB
import Derived.Laws.BitsAllLaws
import Derived.LoopN
namespace Go.Proofs.Ytkhaajbhgenicaa
open Go.RowKit
set_option maxRecDepth 100000

theorem rights_no (X : Nat) (p : Int) (w : World) (hp : p < 0 ∨ 256 ≤ p) :
    Calls Try.prog 45 #[.pointer (some ⟨X, 0, none⟩), .int .i64 p] w fun e w' => e = .returned (.int .i64 0) ∧ w = w' := by
  go_enter Try.func45, Try.ntmps45
  go_wp2_with (go_at_call 54; refine (isPage_no _ _ hp).mono ?_; rintro e w' ⟨rfl, rfl⟩)
  go_ret
  exact ⟨rfl, rfl⟩
theorem rights_yes (X p : Nat) (s : MS) (w : World) (hp : p < 256) (h : PM w X s) :
    Calls Try.prog 45 #[.pointer (some ⟨X, 0, none⟩), .int .i64 p] w fun e w' => e = .returned (.int .i64 (s.R p)) ∧ w = w' := by
  have h0 : (0 : Int) ≤ p := by omega
  have h1 : (p : Int) < 256 := by omega
  have c1 := h.ri p hp
  go_enter Try.func45, Try.ntmps45
  go_wp2_with (go_at_call 54; refine (isPage_yes _ _ hp).mono ?_; rintro e w' ⟨rfl, rfl⟩)
  go_ret
  exact ⟨rfl, rfl⟩

def markS (s : MS) (p : Nat) (on : Bool) : MS := if on then { s with M := upd s.M p true } else { s with M := upd s.M p false, T := upd s.T p false }

theorem mark_no (X : Nat) (p : Int) (on : Bool) (w : World) (hp : p < 0 ∨ 256 ≤ p) :
    Calls Try.prog 41 #[.pointer (some ⟨X, 0, none⟩), .int .i64 p, .bool on] w fun e w' => e = .returned (.int .i64 4) ∧ w = w' := by
  go_enter Try.func41, Try.ntmps41
  go_wp2_with (go_at_call 54; refine (isPage_no _ _ hp).mono ?_; rintro e w' ⟨rfl, rfl⟩)
  go_ret
  exact ⟨rfl, rfl⟩
theorem rmark_no (k : RB) (p : Int) (on : Bool) (w : World) (hp : p < 0 ∨ 256 ≤ p) :
    Calls Try.prog 42 #[.pointer (some ⟨k.y, 0, none⟩), .int .i64 p, .bool on] w fun e w' => e = .returned (.int .i64 4) ∧ w = w' := by
  go_enter Try.func42, Try.ntmps42
  go_wp2_with (go_at_call 56; refine (page_no _ _ hp).mono ?_; rintro e w' ⟨rfl, rfl⟩)
  go_ret
  exact ⟨rfl, rfl⟩
theorem mark_yes (X p : Nat) (on : Bool) (s : MS) (w : World) (hp : p < 256) (h : PM w X s) :
    Calls Try.prog 41 #[.pointer (some ⟨X, 0, none⟩), .int .i64 p, .bool on] w fun e w' => e = .returned (.int .i64 0) ∧ PM w' X (markS s p on) ∧ Chg [X] w w' := by
  have h0 : (0 : Int) ≤ p := by omega
  have h1 : (p : Int) < 256 := by omega
  have c1 := h.wa p hp
  have c2 := h.to p hp
  have c3 := h.te
  have f0 := h.fr (65792 + p)
  have f1 := h.fr (66048 + p)
  have f2 := h.fr 66304
  have hn := cnt_le s.T 256
  cases on
  · cases hT : s.T p
    · rw [hT] at c2
      have e : markS s p false = { s with M := upd s.M p false } := by simp only [markS]; rw [upd_self _ _ _ hT]; rfl
      rw [e]
      clear hT e
      go_enter Try.func41, Try.ntmps41
      go_wp2_with (go_at_call 54; refine (isPage_yes _ _ hp).mono ?_; rintro e w' ⟨rfl, rfl⟩)
      go_ret
      exact ⟨rfl, h.setWatch p hp false, (Chg.refl _ _).set⟩
    · rw [hT] at c2
      have HU : Hid (cnt (upd s.T p false) 256 + 1 = cnt s.T 256) := cnt_down s.T 256 p hp hT
      have hpos : 0 < cnt s.T 256 := cnt_pos s.T 256 p hp hT
      clear hT
      go_enter Try.func41, Try.ntmps41
      go_wp2_with (go_at_call 54; refine (isPage_yes _ _ hp).mono ?_; rintro e w' ⟨rfl, rfl⟩)
      go_ret
      refine ⟨rfl, (h.setWatch p hp false).setTold p hp false _ ?_, (((Chg.refl _ _).set).set).set⟩
      have := HU.out
      show (cnt s.T 256 : Int) - 1 = (cnt (upd s.T p false) 256 : Int)
      omega
  · go_enter Try.func41, Try.ntmps41
    go_wp2_with (go_at_call 54; refine (isPage_yes _ _ hp).mono ?_; rintro e w' ⟨rfl, rfl⟩)
    go_ret
    exact ⟨rfl, h.setWatch p hp true, (Chg.refl _ _).set⟩
theorem rmark_yes (k : RB) (p : Nat) (on : Bool) (s : MS) (w : World) (hp : p < 256) (h : RM w k s) :
    Calls Try.prog 42 #[.pointer (some ⟨k.y, 0, none⟩), .int .i64 p, .bool on] w fun e w' => e = .returned (.int .i64 0) ∧ RM w' k (markS s p on) ∧ Chg k.all w w' := by
  have h0 : (0 : Int) ≤ p := by omega
  have h1 : (p : Int) < 256 := by omega
  have c1 := h.wa p hp
  have d2 := h.c2
  have f0 := h.fm p
  have hw := h.setWatch p hp on
  have d3' := hw.c3
  have c2' := hw.to p hp
  have f1' := hw.ft p
  cases on
  · go_enter Try.func42, Try.ntmps42
    go_wp2_with (go_at_call 56; refine (page_yes _ _ hp).mono ?_; rintro e w' ⟨rfl, rfl⟩)
    go_ret
    exact ⟨rfl, hw.setTold p hp false, ((Chg.refl _ _).setIn (by simp [RB.all])).setIn (by simp [RB.all])⟩
  · go_enter Try.func42, Try.ntmps42
    go_wp2_with (go_at_call 56; refine (page_yes _ _ hp).mono ?_; rintro e w' ⟨rfl, rfl⟩)
    go_ret
    exact ⟨rfl, hw, (Chg.refl _ _).setIn (by simp [RB.all])⟩

def touchB (s : MS) : Bool := decide (0 < cnt s.T 256)
theorem touched_any (X : Nat) (s : MS) (w : World) (h : PM w X s) :
    Calls Try.prog 46 #[.pointer (some ⟨X, 0, none⟩)] w fun e w' => e = .returned (.bool (touchB s)) ∧ w = w' := by
  have c3 := h.te
  have hn := cnt_le s.T 256
  unfold touchB
  by_cases hp : 0 < cnt s.T 256
  · rw [decide_eq_true hp]
    have hi : (0 : Int) < cnt s.T 256 := by omega
    go_enter Try.func46, Try.ntmps46
    go_wp2
    go_ret
    exact ⟨rfl, rfl⟩
  · rw [decide_eq_false hp]
    have hi : ¬ (0 : Int) < cnt s.T 256 := by omega
    go_enter Try.func46, Try.ntmps46
    go_wp2
    go_ret
    exact ⟨rfl, rfl⟩
theorem rtouched_any (k : RB) (s : MS) (w : World) (h : RM w k s) :
    Calls Try.prog 47 #[.pointer (some ⟨k.y, 0, none⟩)] w fun e w' => e = .returned (.bool (touchB s)) ∧ w = w' := by
  have d3 := h.c3
  go_enter Try.func47, Try.ntmps47
  go_wp2
  go_loop [10] (fun i => ∃ j : Nat, j ≤ 256 ∧ i = .int .i64 j ∧ ∀ p, p < j → s.T p = false) (fun i => 256 - (intOf i).toNat)
  case atStart => exact ⟨0, by omega, rfl, fun p hp => by omega⟩
  case round =>
    obtain ⟨j, hj, rfl, hf⟩ := hrel
    have HF : Hid (∀ p, p < j → s.T p = false) := hf
    clear hf
    by_cases hlt : j < 256
    · have c := h.to j hlt
      have hji : (j : Int) < 256 := by omega
      have hj0 : (0 : Int) ≤ j := by omega
      cases hT : s.T j
      · rw [hT] at c
        have HT : Hid (s.T j = false) := hT
        clear hT
        go_wp2
        go_round
        case rel => exact ⟨j + 1, by omega, by go_num, fun p hp => by
          by_cases e : p = j
          · subst e; exact HT.out
          · exact HF.out p (by omega)⟩
        case measure => simp [intOf]; omega
      · rw [hT] at c
        have HE : Hid (touchB s = true) := decide_eq_true (cnt_pos s.T 256 j hlt hT)
        clear hT
        go_wp2
        go_ret
        exact ⟨(congrArg (fun b => Ending.returned (Value.bool b)) HE.out).symm, rfl⟩
    · have HE : Hid (touchB s = false) := by
        have : j = 256 := by omega
        subst this
        show touchB s = false
        unfold touchB
        rw [cnt_none s.T 256 HF.out]; rfl
      go_wp2
      go_ret
      exact ⟨(congrArg (fun b => Ending.returned (Value.bool b)) HE.out).symm, rfl⟩

end Go.Proofs.Ytkhaajbhgenicaa
