import Derived.Test.YtcdphcbjmpgjmaaFB
namespace Go.Proofs.Ytcdphcbjmpgjmaa.Fl
open Go.RowKit
set_option maxRecDepth 100000
set_option linter.unusedVariables false

/-- The carry that counts. -/
def carF (old : Nat) : Int := ((old % 16 / 4 % 2 : Nat) : Int)
theorem carF_bd (old : Nat) : 0 ≤ carF old ∧ carF old ≤ 1 := by unfold carF; omega
def addF (a b : Nat) (c : Int) : Int := valF (((a : Int) + b + c) % 4294967296) + isF (decide (4294967296 ≤ (a : Int) + b + c)) 4 + isF (pastB (sgn a + sgn b + c)) 8
def subF (a b : Nat) (c : Int) : Int := valF (((a : Int) - b - c) % 4294967296) + isF (decide ((a : Int) - b - c < 0)) 4 + isF (pastB (sgn a - sgn b - c)) 8
def mulF (a b : Nat) : Int := valF ((a * b % 4294967296 : Nat) : Int) + isF (decide (4294967296 ≤ a * b)) 12
def incF (a old : Nat) : Int := valF (((a : Int) + 1) % 4294967296) + carF old * 4 + isF (pastB (sgn a + 1)) 8
def decF (a old : Nat) : Int := valF (((a : Int) - 1) % 4294967296) + carF old * 4 + isF (pastB (sgn a - 1)) 8
def shlF (a n : Nat) : Int := valF ((a * 2 ^ n % 4294967296 : Nat) : Int) + isF (a * 2 ^ n / 4294967296 % 2 == 1) 4
def shrF (a n : Nat) : Int := valF ((a : Int) / 2 ^ n) + isF ((a : Int) / 2 ^ (n - 1) % 2 == 1) 4
def sarF (a n : Nat) : Int := valF (sgn a / 2 ^ (n - 1) / 2 % 4294967296) + isF (sgn a / 2 ^ (n - 1) % 4294967296 % 2 == 1) 4
def rolF (a n old : Nat) : Int := ((old % 16 : Nat) : Int) - carF old * 4 + isF (turN n a % 2 == 1) 4

set_option maxHeartbeats 1000000 in
theorem flags1 (a b old : Nat) (w : World) (ha : a < 4294967296) (hb : b < 4294967296) (ho : old < 4294967296) : Calls Try.prog 28 #[.int .i64 1, .int .u32 a, .int .u32 b, .int .u32 old] w fun e w' => e = .returned (.int .u32 (addF a b 0)) ∧ w = w' := by
  have ha0 : (0 : Int) ≤ a := by omega
  have ha1 : (a : Int) < 4294967296 := by omega
  have hb0 : (0 : Int) ≤ b := by omega
  have hb1 : (b : Int) < 4294967296 := by omega
  have ho0 : (0 : Int) ≤ old := by omega
  have ho1 : (old : Int) < 4294967296 := by omega
  obtain ⟨s1, s2⟩ := sgn_bd a ha0 ha1
  obtain ⟨s3, s4⟩ := sgn_bd b hb0 hb1
  go_enter Try.func28, Try.ntmps28
  go_wp2_with first
    | (go_at_call 72; refine (is_any _ _ _).mono ?_; rintro e w' ⟨rfl, rfl⟩)
    | (go_at_call 65; refine (word_any _ _ (by omega) (by omega)).mono ?_; rintro e w' ⟨rfl, rfl⟩)
    | (go_at_call 71; refine (value_any _ _ (by omega) (by omega)).mono ?_; rintro e w' ⟨rfl, rfl⟩)
    | (go_at_call 69; refine (signed_any _ _ (by omega) (by omega)).mono ?_; rintro e w' ⟨rfl, rfl⟩)
    | (go_at_call 73; refine (past_any _ _).mono ?_; rintro e w' ⟨rfl, rfl⟩)
  go_ret
  refine ⟨ret_int ?_, rfl⟩
  have h1 := valF_bd (((a : Int) + b) % 4294967296)
  have h2 := isF_bd (decide (4294967296 ≤ (a : Int) + b)) 4 (by omega)
  have h3 := isF_bd (pastB (sgn a + sgn b)) 8 (by omega)
  simp only [addF, Int.add_zero]
  omega

set_option maxHeartbeats 1000000 in
theorem flags2 (a b old : Nat) (w : World) (ha : a < 4294967296) (hb : b < 4294967296) (ho : old < 4294967296) : Calls Try.prog 28 #[.int .i64 2, .int .u32 a, .int .u32 b, .int .u32 old] w fun e w' => e = .returned (.int .u32 (addF a b (carF old))) ∧ w = w' := by
  have ha0 : (0 : Int) ≤ a := by omega
  have ha1 : (a : Int) < 4294967296 := by omega
  have hb0 : (0 : Int) ≤ b := by omega
  have hb1 : (b : Int) < 4294967296 := by omega
  have ho0 : (0 : Int) ≤ old := by omega
  have ho1 : (old : Int) < 4294967296 := by omega
  obtain ⟨s1, s2⟩ := sgn_bd a ha0 ha1
  obtain ⟨s3, s4⟩ := sgn_bd b hb0 hb1
  have hc0 := carF_bd old
  obtain ⟨c, hc⟩ : ∃ c, carF old = c := ⟨_, rfl⟩
  have hci : (old : Int) % 16 / 4 % 2 = c := by rw [← hc]; unfold carF; omega
  rw [hc] at hc0
  rw [hc]
  obtain ⟨hc1, hc2⟩ := hc0
  clear hc
  go_enter Try.func28, Try.ntmps28
  go_wp2_with first
    | (go_at_call 72; refine (is_any _ _ _).mono ?_; rintro e w' ⟨rfl, rfl⟩)
    | (go_at_call 65; refine (word_any _ _ (by omega) (by omega)).mono ?_; rintro e w' ⟨rfl, rfl⟩)
    | (go_at_call 71; refine (value_any _ _ (by omega) (by omega)).mono ?_; rintro e w' ⟨rfl, rfl⟩)
    | (go_at_call 69; refine (signed_any _ _ (by omega) (by omega)).mono ?_; rintro e w' ⟨rfl, rfl⟩)
    | (go_at_call 73; refine (past_any _ _).mono ?_; rintro e w' ⟨rfl, rfl⟩)
  go_ret
  refine ⟨ret_int ?_, rfl⟩
  have h1 := valF_bd (((a : Int) + b + c) % 4294967296)
  have h2 := isF_bd (decide (4294967296 ≤ (a : Int) + b + c)) 4 (by omega)
  have h3 := isF_bd (pastB (sgn a + sgn b + c)) 8 (by omega)
  simp only [addF]
  omega

set_option maxHeartbeats 1000000 in
theorem flags3 (a b old : Nat) (w : World) (ha : a < 4294967296) (hb : b < 4294967296) (ho : old < 4294967296) : Calls Try.prog 28 #[.int .i64 3, .int .u32 a, .int .u32 b, .int .u32 old] w fun e w' => e = .returned (.int .u32 (subF a b 0)) ∧ w = w' := by
  have ha0 : (0 : Int) ≤ a := by omega
  have ha1 : (a : Int) < 4294967296 := by omega
  have hb0 : (0 : Int) ≤ b := by omega
  have hb1 : (b : Int) < 4294967296 := by omega
  have ho0 : (0 : Int) ≤ old := by omega
  have ho1 : (old : Int) < 4294967296 := by omega
  obtain ⟨s1, s2⟩ := sgn_bd a ha0 ha1
  obtain ⟨s3, s4⟩ := sgn_bd b hb0 hb1
  go_enter Try.func28, Try.ntmps28
  go_wp2_with first
    | (go_at_call 72; refine (is_any _ _ _).mono ?_; rintro e w' ⟨rfl, rfl⟩)
    | (go_at_call 65; refine (word_any _ _ (by omega) (by omega)).mono ?_; rintro e w' ⟨rfl, rfl⟩)
    | (go_at_call 71; refine (value_any _ _ (by omega) (by omega)).mono ?_; rintro e w' ⟨rfl, rfl⟩)
    | (go_at_call 69; refine (signed_any _ _ (by omega) (by omega)).mono ?_; rintro e w' ⟨rfl, rfl⟩)
    | (go_at_call 73; refine (past_any _ _).mono ?_; rintro e w' ⟨rfl, rfl⟩)
  go_ret
  refine ⟨ret_int ?_, rfl⟩
  have h1 := valF_bd (((a : Int) - b) % 4294967296)
  have h2 := isF_bd (decide ((a : Int) - b < 0)) 4 (by omega)
  have h3 := isF_bd (pastB (sgn a - sgn b)) 8 (by omega)
  simp only [subF, Int.sub_zero]
  omega

set_option maxHeartbeats 1000000 in
theorem flags4 (a b old : Nat) (w : World) (ha : a < 4294967296) (hb : b < 4294967296) (ho : old < 4294967296) : Calls Try.prog 28 #[.int .i64 4, .int .u32 a, .int .u32 b, .int .u32 old] w fun e w' => e = .returned (.int .u32 (subF a b (carF old))) ∧ w = w' := by
  have ha0 : (0 : Int) ≤ a := by omega
  have ha1 : (a : Int) < 4294967296 := by omega
  have hb0 : (0 : Int) ≤ b := by omega
  have hb1 : (b : Int) < 4294967296 := by omega
  have ho0 : (0 : Int) ≤ old := by omega
  have ho1 : (old : Int) < 4294967296 := by omega
  obtain ⟨s1, s2⟩ := sgn_bd a ha0 ha1
  obtain ⟨s3, s4⟩ := sgn_bd b hb0 hb1
  have hc0 := carF_bd old
  obtain ⟨c, hc⟩ : ∃ c, carF old = c := ⟨_, rfl⟩
  have hci : (old : Int) % 16 / 4 % 2 = c := by rw [← hc]; unfold carF; omega
  rw [hc] at hc0
  rw [hc]
  obtain ⟨hc1, hc2⟩ := hc0
  clear hc
  go_enter Try.func28, Try.ntmps28
  go_wp2_with first
    | (go_at_call 72; refine (is_any _ _ _).mono ?_; rintro e w' ⟨rfl, rfl⟩)
    | (go_at_call 65; refine (word_any _ _ (by omega) (by omega)).mono ?_; rintro e w' ⟨rfl, rfl⟩)
    | (go_at_call 71; refine (value_any _ _ (by omega) (by omega)).mono ?_; rintro e w' ⟨rfl, rfl⟩)
    | (go_at_call 69; refine (signed_any _ _ (by omega) (by omega)).mono ?_; rintro e w' ⟨rfl, rfl⟩)
    | (go_at_call 73; refine (past_any _ _).mono ?_; rintro e w' ⟨rfl, rfl⟩)
  go_ret
  refine ⟨ret_int ?_, rfl⟩
  have h1 := valF_bd (((a : Int) - b - c) % 4294967296)
  have h2 := isF_bd (decide ((a : Int) - b - c < 0)) 4 (by omega)
  have h3 := isF_bd (pastB (sgn a - sgn b - c)) 8 (by omega)
  simp only [subF]
  omega

set_option maxHeartbeats 1000000 in
theorem flags5 (a b old : Nat) (w : World) (ha : a < 4294967296) (hb : b < 4294967296) (ho : old < 4294967296) : Calls Try.prog 28 #[.int .i64 5, .int .u32 a, .int .u32 b, .int .u32 old] w fun e w' => e = .returned (.int .u32 (valF a)) ∧ w = w' := by
  have ha0 : (0 : Int) ≤ a := by omega
  have ha1 : (a : Int) < 4294967296 := by omega
  have hb0 : (0 : Int) ≤ b := by omega
  have hb1 : (b : Int) < 4294967296 := by omega
  have ho0 : (0 : Int) ≤ old := by omega
  have ho1 : (old : Int) < 4294967296 := by omega
  obtain ⟨s1, s2⟩ := sgn_bd a ha0 ha1
  obtain ⟨s3, s4⟩ := sgn_bd b hb0 hb1
  go_enter Try.func28, Try.ntmps28
  go_wp2_with first
    | (go_at_call 72; refine (is_any _ _ _).mono ?_; rintro e w' ⟨rfl, rfl⟩)
    | (go_at_call 65; refine (word_any _ _ (by omega) (by omega)).mono ?_; rintro e w' ⟨rfl, rfl⟩)
    | (go_at_call 71; refine (value_any _ _ (by omega) (by omega)).mono ?_; rintro e w' ⟨rfl, rfl⟩)
    | (go_at_call 69; refine (signed_any _ _ (by omega) (by omega)).mono ?_; rintro e w' ⟨rfl, rfl⟩)
    | (go_at_call 73; refine (past_any _ _).mono ?_; rintro e w' ⟨rfl, rfl⟩)
  go_ret
  refine ⟨ret_int ?_, rfl⟩
  rfl

set_option maxHeartbeats 1000000 in
theorem flags11 (a b old : Nat) (w : World) (ha : a < 4294967296) (hb : b < 4294967296) (ho : old < 4294967296) : Calls Try.prog 28 #[.int .i64 11, .int .u32 a, .int .u32 b, .int .u32 old] w fun e w' => e = .returned (.int .u32 (incF a old)) ∧ w = w' := by
  have ha0 : (0 : Int) ≤ a := by omega
  have ha1 : (a : Int) < 4294967296 := by omega
  have hb0 : (0 : Int) ≤ b := by omega
  have hb1 : (b : Int) < 4294967296 := by omega
  have ho0 : (0 : Int) ≤ old := by omega
  have ho1 : (old : Int) < 4294967296 := by omega
  obtain ⟨s1, s2⟩ := sgn_bd a ha0 ha1
  obtain ⟨s3, s4⟩ := sgn_bd b hb0 hb1
  have hc0 := carF_bd old
  obtain ⟨c, hc⟩ : ∃ c, carF old = c := ⟨_, rfl⟩
  have hci : (old : Int) % 16 / 4 % 2 = c := by rw [← hc]; unfold carF; omega
  rw [hc] at hc0
  rw [incF, hc]
  obtain ⟨hc1, hc2⟩ := hc0
  clear hc
  go_enter Try.func28, Try.ntmps28
  go_wp2_with first
    | (go_at_call 72; refine (is_any _ _ _).mono ?_; rintro e w' ⟨rfl, rfl⟩)
    | (go_at_call 65; refine (word_any _ _ (by omega) (by omega)).mono ?_; rintro e w' ⟨rfl, rfl⟩)
    | (go_at_call 71; refine (value_any _ _ (by omega) (by omega)).mono ?_; rintro e w' ⟨rfl, rfl⟩)
    | (go_at_call 69; refine (signed_any _ _ (by omega) (by omega)).mono ?_; rintro e w' ⟨rfl, rfl⟩)
    | (go_at_call 73; refine (past_any _ _).mono ?_; rintro e w' ⟨rfl, rfl⟩)
  go_ret
  refine ⟨ret_int ?_, rfl⟩
  have h1 := valF_bd (((a : Int) + 1) % 4294967296)
  have h3 := isF_bd (pastB (sgn a + 1)) 8 (by omega)
  omega

set_option maxHeartbeats 1000000 in
theorem flags12 (a b old : Nat) (w : World) (ha : a < 4294967296) (hb : b < 4294967296) (ho : old < 4294967296) : Calls Try.prog 28 #[.int .i64 12, .int .u32 a, .int .u32 b, .int .u32 old] w fun e w' => e = .returned (.int .u32 (decF a old)) ∧ w = w' := by
  have ha0 : (0 : Int) ≤ a := by omega
  have ha1 : (a : Int) < 4294967296 := by omega
  have hb0 : (0 : Int) ≤ b := by omega
  have hb1 : (b : Int) < 4294967296 := by omega
  have ho0 : (0 : Int) ≤ old := by omega
  have ho1 : (old : Int) < 4294967296 := by omega
  obtain ⟨s1, s2⟩ := sgn_bd a ha0 ha1
  obtain ⟨s3, s4⟩ := sgn_bd b hb0 hb1
  have hc0 := carF_bd old
  obtain ⟨c, hc⟩ : ∃ c, carF old = c := ⟨_, rfl⟩
  have hci : (old : Int) % 16 / 4 % 2 = c := by rw [← hc]; unfold carF; omega
  rw [hc] at hc0
  rw [decF, hc]
  obtain ⟨hc1, hc2⟩ := hc0
  clear hc
  go_enter Try.func28, Try.ntmps28
  go_wp2_with first
    | (go_at_call 72; refine (is_any _ _ _).mono ?_; rintro e w' ⟨rfl, rfl⟩)
    | (go_at_call 65; refine (word_any _ _ (by omega) (by omega)).mono ?_; rintro e w' ⟨rfl, rfl⟩)
    | (go_at_call 71; refine (value_any _ _ (by omega) (by omega)).mono ?_; rintro e w' ⟨rfl, rfl⟩)
    | (go_at_call 69; refine (signed_any _ _ (by omega) (by omega)).mono ?_; rintro e w' ⟨rfl, rfl⟩)
    | (go_at_call 73; refine (past_any _ _).mono ?_; rintro e w' ⟨rfl, rfl⟩)
  go_ret
  refine ⟨ret_int ?_, rfl⟩
  have h1 := valF_bd (((a : Int) - 1) % 4294967296)
  have h3 := isF_bd (pastB (sgn a - 1)) 8 (by omega)
  omega

end Go.Proofs.Ytcdphcbjmpgjmaa.Fl
