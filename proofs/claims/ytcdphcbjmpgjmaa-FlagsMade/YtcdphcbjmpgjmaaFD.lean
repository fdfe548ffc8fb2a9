import Derived.Test.YtcdphcbjmpgjmaaFC
namespace Go.Proofs.Ytcdphcbjmpgjmaa.Fl
open Go.RowKit
set_option maxRecDepth 100000
set_option linter.unusedVariables false

theorem double_me (x n d : Nat) (w : World) (hd : x * 2 ^ n = d) (h1 : x < 4294967296) (hn : n ≤ 31) : Calls Try.prog 67 #[.int .u32 x, .int .u32 n] w fun e w' => e = .returned (.int .u64 (d : Int)) ∧ w = w' := by
  subst hd; exact double_any x n w h1 hn

set_option maxHeartbeats 1000000 in
theorem flags10 (a b old : Nat) (w : World) (ha : a < 4294967296) (hb : b < 4294967296) (ho : old < 4294967296) : Calls Try.prog 28 #[.int .i64 10, .int .u32 a, .int .u32 b, .int .u32 old] w fun e w' => e = .returned (.int .u32 (mulF a b)) ∧ w = w' := by
  have ha0 : (0 : Int) ≤ a := by omega
  have ha1 : (a : Int) < 4294967296 := by omega
  have hb0 : (0 : Int) ≤ b := by omega
  have hb1 : (b : Int) < 4294967296 := by omega
  have ho0 : (0 : Int) ≤ old := by omega
  have ho1 : (old : Int) < 4294967296 := by omega
  obtain ⟨s1, s2⟩ := sgn_bd a ha0 ha1
  obtain ⟨s3, s4⟩ := sgn_bd b hb0 hb1
  obtain ⟨p, hp⟩ : ∃ p, a * b = p := ⟨_, rfl⟩
  have hpb : p < 18446744073709551616 := by
    rw [← hp]
    exact Nat.lt_of_le_of_lt (Nat.mul_le_mul (Nat.le_of_lt_succ (m := a) (n := 4294967295) ha) (Nat.le_of_lt_succ (m := b) (n := 4294967295) hb)) (by decide)
  have hpi : (a : Int) * (b : Int) = (p : Int) := by rw [← hp]; simp
  have hp0 : (0 : Int) ≤ p := by omega
  have hp1 : (p : Int) < 18446744073709551616 := by omega
  have e : mulF a b = valF ((p : Int) % 4294967296) + isF (decide (4294967296 ≤ (p : Int))) 12 := by
    unfold mulF; rw [hp]
    congr 2
    exact decide_eq_decide.2 (by omega)
  rw [e]
  clear hp e hpb
  go_enter Try.func28, Try.ntmps28
  go_wp2_with first
    | (go_at_call 72; refine (is_any _ _ _).mono ?_; rintro e w' ⟨rfl, rfl⟩)
    | (go_at_call 65; refine (word_any _ _ (by omega) (by omega)).mono ?_; rintro e w' ⟨rfl, rfl⟩)
    | (go_at_call 71; refine (value_any _ _ (by omega) (by omega)).mono ?_; rintro e w' ⟨rfl, rfl⟩)
    | (go_at_call 69; refine (signed_any _ _ (by omega) (by omega)).mono ?_; rintro e w' ⟨rfl, rfl⟩)
    | (go_at_call 73; refine (past_any _ _).mono ?_; rintro e w' ⟨rfl, rfl⟩)
  go_ret
  refine ⟨ret_int ?_, rfl⟩
  have h1 := valF_bd ((p : Int) % 4294967296)
  have h2 := isF_bd (decide (4294967296 ≤ (p : Int))) 12 (by omega)
  omega

set_option maxHeartbeats 1000000 in
theorem flags6 (a b old : Nat) (w : World) (ha : a < 4294967296) (hb : b < 4294967296) (ho : old < 4294967296) (h0 : 0 < b % 32) : Calls Try.prog 28 #[.int .i64 6, .int .u32 a, .int .u32 b, .int .u32 old] w fun e w' => e = .returned (.int .u32 (shlF a (b % 32))) ∧ w = w' := by
  have ha0 : (0 : Int) ≤ a := by omega
  have ha1 : (a : Int) < 4294967296 := by omega
  have hb0 : (0 : Int) ≤ b := by omega
  have hb1 : (b : Int) < 4294967296 := by omega
  have ho0 : (0 : Int) ≤ old := by omega
  have ho1 : (old : Int) < 4294967296 := by omega
  obtain ⟨s1, s2⟩ := sgn_bd a ha0 ha1
  obtain ⟨s3, s4⟩ := sgn_bd b hb0 hb1
  obtain ⟨n, hn⟩ : ∃ n, b % 32 = n := ⟨_, rfl⟩
  have hnb : 0 < n ∧ n ≤ 31 := by omega
  rw [hn]
  have hni : (b : Int) % 32 = (n : Int) := by omega
  have hn0 : (0 : Int) < n := by omega
  have hn1 : (n : Int) ≤ 31 := by omega
  have hnz : ((n : Int) == 0) = false := by simp; omega
  have hnz' : (n == 0) = false := by simp; omega
  have HN : Hid (0 < n ∧ n ≤ 31) := hnb
  clear hn hnb h0
  obtain ⟨d, hd⟩ : ∃ d, a * 2 ^ n = d := ⟨_, rfl⟩
  have HD : Hid (a * 2 ^ n = d) := hd
  have hdb : d < 18446744073709551616 := by
    rw [← hd]
    have : 2 ^ n ≤ 2 ^ 31 := Nat.pow_le_pow_right (by decide) HN.out.2
    exact Nat.lt_of_le_of_lt (Nat.mul_le_mul (Nat.le_of_lt_succ (m := a) (n := 4294967295) ha) this) (by decide)
  have hd0 : (0 : Int) ≤ d := by omega
  have hd1 : (d : Int) < 18446744073709551616 := by omega
  have e : shlF a n = valF ((d : Int) % 4294967296) + isF ((d : Int) / 4294967296 % 2 == 1) 4 := by
    unfold shlF; rw [hd]
    congr 2
    rw [Bool.eq_iff_iff]; simp; omega
  rw [e]
  clear hd e hdb
  go_enter Try.func28, Try.ntmps28
  go_wp2_with first
    | (go_at_call 72; refine (is_any _ _ _).mono ?_; rintro e w' ⟨rfl, rfl⟩)
    | (go_at_call 65; refine (word_any _ _ (by omega) (by omega)).mono ?_; rintro e w' ⟨rfl, rfl⟩)
    | (go_at_call 71; refine (value_any _ _ (by omega) (by omega)).mono ?_; rintro e w' ⟨rfl, rfl⟩)
    | (go_at_call 69; refine (signed_any _ _ (by omega) (by omega)).mono ?_; rintro e w' ⟨rfl, rfl⟩)
    | (go_at_call 73; refine (past_any _ _).mono ?_; rintro e w' ⟨rfl, rfl⟩)
    | (go_at_call 67; refine (double_me a n d _ HD.out ha HN.out.2).mono ?_; rintro e w' ⟨rfl, rfl⟩)
  go_ret
  refine ⟨ret_int ?_, rfl⟩
  have h1 := valF_bd ((d : Int) % 4294967296)
  have h2 := isF_bd ((d : Int) / 4294967296 % 2 == 1) 4 (by omega)
  omega

end Go.Proofs.Ytcdphcbjmpgjmaa.Fl
