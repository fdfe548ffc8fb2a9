import Derived.Test.YtcdphcbjmpgjmaaIB
namespace Go.Proofs.Ytcdphcbjmpgjmaa
open Go.RowKit
set_option maxRecDepth 100000
set_option linter.unusedVariables false
set_option linter.unusedSimpArgs false

set_option maxHeartbeats 1000000 in
theorem reckoned4a (a b c h l : Nat) (w : World) (hh : a * b / 4294967296 = h) (hl : a * b % 4294967296 = l) (ha : a < 4294967296) (hb : b < 4294967296) (hq : 1 < h) :
    Calls Try.prog 95 #[.int .u8 4, .int .u32 a, .int .u32 b, .int .u32 c] w fun e w' => e = .returned (.tuple #[.int .u32 l, .int .u32 (Fl.mulF a b)]) ∧ w = w' := by
  have hll : l < 4294967296 := by omega
  have hhl : h < 4294967296 := by
    have hm : a * b < 4294967296 * 4294967296 := Nat.mul_lt_mul'' ha hb
    omega
  have hqi : (1 : Int) < h := by omega
  have HE : Hid (Fl.valF l + (1 : Nat) * 4 + (1 : Nat) * 8 = Fl.mulF a b) := by
    have hg : 4294967296 ≤ a * b ↔ 1 ≤ h := by omega
    unfold Fl.mulF
    rw [hl]
    unfold Fl.isF
    by_cases hc : 4294967296 ≤ a * b
    · have h1 := hg.mp hc
      have e1 : (((1 : Nat)) : Int) = 1 := by omega
      rw [e1, if_pos (decide_eq_true hc)]; exact (fun V : Int => (by omega : V + 1 * 4 + 1 * 8 = V + 12)) _
    · have h1 : ¬ 1 ≤ h := fun x => hc (hg.mpr x)
      exfalso; omega
  have HC : Hid (∀ w, Calls Try.prog 109 #[.int .u32 a, .int .u32 b] w fun e w' => e = .returned (.tuple #[.int .u32 h, .int .u32 l]) ∧ w = w') := fun w => by
    have := mul32 a b w ha hb
    rw [hh, hl] at this
    exact this
  clear hh hl
  go_enter Try.func95, Try.ntmps95
  go_wp2_with (first
    | (go_at_call 109; refine (HC.out _).mono ?_; rintro e w1 ⟨rfl, rfl⟩)
    | (go_at_call 106; refine (flagsOf_any l 1 1 _ hll (Nat.le_refl 1) (Nat.le_refl 1)).mono ?_; rintro e w1 ⟨rfl, rfl⟩))
  go_ret2
  exact ⟨ret2 rfl HE.out, rfl⟩
set_option maxHeartbeats 1000000 in
theorem reckoned4b (a b c h l : Nat) (w : World) (hh : a * b / 4294967296 = h) (hl : a * b % 4294967296 = l) (ha : a < 4294967296) (hb : b < 4294967296) (hq : h ≤ 1) :
    Calls Try.prog 95 #[.int .u8 4, .int .u32 a, .int .u32 b, .int .u32 c] w fun e w' => e = .returned (.tuple #[.int .u32 l, .int .u32 (Fl.mulF a b)]) ∧ w = w' := by
  have hll : l < 4294967296 := by omega
  have hhl : h < 4294967296 := by
    have hm : a * b < 4294967296 * 4294967296 := Nat.mul_lt_mul'' ha hb
    omega
  have hqi : ¬ (1 : Int) < h := by omega
  have HE : Hid (Fl.valF l + (h : Nat) * 4 + (h : Nat) * 8 = Fl.mulF a b) := by
    have hg : 4294967296 ≤ a * b ↔ 1 ≤ h := by omega
    unfold Fl.mulF
    rw [hl]
    unfold Fl.isF
    by_cases hc : 4294967296 ≤ a * b
    · have h1 := hg.mp hc
      have e1 : (((h : Nat)) : Int) = 1 := by omega
      rw [e1, if_pos (decide_eq_true hc)]; exact (fun V : Int => (by omega : V + 1 * 4 + 1 * 8 = V + 12)) _
    · have h1 : ¬ 1 ≤ h := fun x => hc (hg.mpr x)
      have e1 : (((h : Nat)) : Int) = 0 := by omega
      rw [e1, if_neg (by simp [hc])]; exact (fun V : Int => (by omega : V + 0 * 4 + 0 * 8 = V + 0)) _
  have HC : Hid (∀ w, Calls Try.prog 109 #[.int .u32 a, .int .u32 b] w fun e w' => e = .returned (.tuple #[.int .u32 h, .int .u32 l]) ∧ w = w') := fun w => by
    have := mul32 a b w ha hb
    rw [hh, hl] at this
    exact this
  clear hh hl
  go_enter Try.func95, Try.ntmps95
  go_wp2_with (first
    | (go_at_call 109; refine (HC.out _).mono ?_; rintro e w1 ⟨rfl, rfl⟩)
    | (go_at_call 106; refine (flagsOf_any l h h _ hll hq hq).mono ?_; rintro e w1 ⟨rfl, rfl⟩))
  go_ret2
  exact ⟨ret2 rfl HE.out, rfl⟩
theorem reckoned4 (a b c : Nat) (w : World) (ha : a < 4294967296) (hb : b < 4294967296) :
    Calls Try.prog 95 #[.int .u8 4, .int .u32 a, .int .u32 b, .int .u32 c] w fun e w' => e = .returned (.tuple #[.int .u32 ((a * b % 4294967296 : Nat) : Int), .int .u32 (Fl.mulF a b)]) ∧ w = w' := by
  by_cases h : 1 < a * b / 4294967296
  · exact reckoned4a a b c _ _ w rfl rfl ha hb h
  · exact reckoned4b a b c _ _ w rfl rfl ha hb (by omega)
end Go.Proofs.Ytcdphcbjmpgjmaa
