import Derived.Test.YtkgbjpdoigdjnaaJ29
import Derived.Test.YtkgbjpdoigdjnaaJ07
namespace Go.Proofs.Ytkgbjpdoigdjnaa
open Go.RowKit
set_option maxRecDepth 100000
set_option linter.unusedVariables false
set_option linter.unusedSimpArgs false

/-! ## What un does -/
def unF (w : Int) (a : Nat) : Nat :=
  if w = 0 then 4294967295 - a else if w = 1 then (4294967296 - a) % 4294967296 else if w = 2 then (if 128 ≤ a % 256 then a % 256 + 4294967040 else a % 256)
  else if w = 3 then (if 32768 ≤ a % 65536 then a % 65536 + 4294901760 else a % 65536) else if w = 4 then a % 256 else if w = 5 then a % 65536 else if a = 0 then 1 else 0
theorem truth_any (b : Bool) (w : World) : Calls Try.prog 184 #[.bool b] w fun e w' => e = .returned (.int .u32 (Fl.isF b 1)) ∧ w = w' := by
  cases b <;> (go_enter Try.func184, Try.ntmps184; go_wp2; go_ret; exact ⟨rfl, rfl⟩)
theorem is3_any (b : Bool) (w : World) : Calls Try.prog 169 #[.bool b] w fun e w' => e = .returned (.int .u32 (Fl.isF b 1)) ∧ w = w' := by
  cases b <;> (go_enter Try.func169, Try.ntmps169; go_wp2; go_ret; exact ⟨rfl, rfl⟩)
theorem sgn3_any (x : Int) (w : World) (h0 : 0 ≤ x) (h1 : x < 4294967296) : Calls Try.prog 181 #[.int .u32 x] w fun e w' => e = .returned (.int .i64 (Fl.sgn x)) ∧ w = w' := by
  by_cases h : 2147483648 ≤ x
  · rw [Fl.sgn, if_pos h]
    go_enter Try.func181, Try.ntmps181; go_wp2; go_ret; exact ⟨rfl, rfl⟩
  · rw [Fl.sgn, if_neg h]
    go_enter Try.func181, Try.ntmps181; go_wp2; go_ret; exact ⟨rfl, rfl⟩
theorem retu {a b : Int} (h : a = b) : Ending.returned (.int .u32 a) = .returned (.int .u32 b) := by rw [h]

set_option maxHeartbeats 1000000 in
theorem run_any (k : Int) (a : Nat) (w : World) (ha : a < 4294967296) (hk : 0 ≤ k ∧ k ≤ 6) : Calls Try.prog 167 #[.int .i64 k, .int .u32 a] w fun e w' => e = .returned (.int .u32 (unF k a)) ∧ w = w' := by
  have a0 : (0 : Int) ≤ (a : Int) := by omega
  have a1 : (a : Int) < 4294967296 := by omega
  rcases (by omega : k = 0 ∨ k = 1 ∨ k = 2 ∨ k = 3 ∨ k = 4 ∨ k = 5 ∨ k = 6) with rfl | rfl | rfl | rfl | rfl | rfl | rfl
  · go_enter Try.func167, Try.ntmps167; go_wp2; go_ret; exact ⟨retu (by simp [unF] <;> omega), rfl⟩
  · go_enter Try.func167, Try.ntmps167; go_wp2; go_ret; exact ⟨retu (by simp [unF] <;> omega), rfl⟩
  · by_cases h : 128 ≤ a % 256
    · have d : decide (128 ≤ (a : Int) % 256) = true := decide_eq_true (by omega)
      go_enter Try.func167, Try.ntmps167; go_wp2; go_ret; exact ⟨retu (by simp [unF, h] <;> omega), rfl⟩
    · have d : decide (128 ≤ (a : Int) % 256) = false := decide_eq_false (by omega)
      go_enter Try.func167, Try.ntmps167; go_wp2; go_ret; exact ⟨retu (by simp [unF, h]), rfl⟩
  · by_cases h : 32768 ≤ a % 65536
    · have d : decide (32768 ≤ (a : Int) % 65536) = true := decide_eq_true (by omega)
      go_enter Try.func167, Try.ntmps167; go_wp2; go_ret; exact ⟨retu (by simp [unF, h] <;> omega), rfl⟩
    · have d : decide (32768 ≤ (a : Int) % 65536) = false := decide_eq_false (by omega)
      go_enter Try.func167, Try.ntmps167; go_wp2; go_ret; exact ⟨retu (by simp [unF, h]), rfl⟩
  · go_enter Try.func167, Try.ntmps167; go_wp2; go_ret; exact ⟨retu (by simp [unF]), rfl⟩
  · go_enter Try.func167, Try.ntmps167; go_wp2; go_ret; exact ⟨retu (by simp [unF]), rfl⟩
  · go_enter Try.func167, Try.ntmps167
    go_wp2_with (go_at_call 169; refine (is3_any _ _).mono ?_; rintro e w1 ⟨rfl, rfl⟩)
    go_ret
    exact ⟨retu (by by_cases h : a = 0 <;> simp [unF, Fl.isF, h]), rfl⟩
theorem not_nat (a : Nat) (ha : a < 4294967296) : 4294967295 ^^^ a = 4294967295 - a := by
  apply Nat.eq_of_testBit_eq
  intro i
  rw [Nat.testBit_xor, show (4294967295 : Nat) - a = 2 ^ 32 - (a + 1) by omega, Nat.testBit_two_pow_sub_succ (by simpa using ha), show (4294967295 : Nat) = 2 ^ 32 - 1 from rfl, Nat.testBit_two_pow_sub_one]
  by_cases hi : i < 32
  · simp [hi]
  · have : a.testBit i = false := Nat.testBit_lt_two_pow (Nat.lt_of_lt_of_le (show a < 2 ^ 32 by simpa using ha) (Nat.pow_le_pow_right (by decide) (by omega)))
    simp [hi, this]
theorem not_any (a : Nat) (ha : a < 4294967296) : bits .xor .u32 IntKind.u32.max (a : Int) = ((4294967295 - a : Nat) : Int) := by
  rw [show IntKind.u32.max = ((4294967295 : Nat) : Int) from rfl, Go.u32_xor_nat _ _ (by decide) ha, not_nat a ha]
theorem and255 (x : Nat) (hx : x < 4294967296) : bits .and .u32 (x : Int) 255 = ((x % 256 : Nat) : Int) := by
  rw [show (255 : Int) = ((255 : Nat) : Int) from rfl, Go.u32_and_nat _ _ hx (by decide)]
  exact congrArg _ (Nat.and_two_pow_sub_one_eq_mod x 8)
theorem and65535 (x : Nat) (hx : x < 4294967296) : bits .and .u32 (x : Int) 65535 = ((x % 65536 : Nat) : Int) := by
  rw [show (65535 : Int) = ((65535 : Nat) : Int) from rfl, Go.u32_and_nat _ _ hx (by decide)]
  exact congrArg _ (Nat.and_two_pow_sub_one_eq_mod x 16)
theorem sig_gen (a n m y : Nat) (w : World) (ha : a < 4294967296) (hm : n + m = 32) (h1 : 1 ≤ n) (h0 : 1 ≤ m) (hy : a * 2 ^ m % 4294967296 = y) : Calls Try.prog 186 #[.int .u32 a, .int .i64 n] w fun e w' => e = .returned (.int .u32 (Fl.sgn y / 2 ^ m % 4294967296)) ∧ w = w' := by
  have hsub : (32 : Int) - (n : Int) = (m : Int) := by omega
  have m0 : (0 : Int) ≤ (m : Int) := by omega
  have n1 : (n : Int) ≤ 32 := by omega
  have n0 : (0 : Int) ≤ (n : Int) := by omega
  have hyl : y < 4294967296 := by omega
  have hs : IntKind.u32.wrap ((a : Int) * 2 ^ m) = (y : Int) := by rw [shl_cast, wrap_u32n, hy]
  have hw : wrap32 (y : Int) = Fl.sgn y := wrap32_sgn y hyl
  clear hy hm
  go_enter Try.func186, Try.ntmps186
  go_wp2
  go_ret
  exact ⟨rfl, rfl⟩
theorem sig8 (a : Nat) (w : World) (ha : a < 4294967296) : Calls Try.prog 186 #[.int .u32 a, .int .i64 8] w fun e w' => e = .returned (.int .u32 (unF 2 a)) ∧ w = w' := by
  have h := sig_gen a 8 24 _ w ha rfl (by decide) (by decide) rfl
  have e : Fl.sgn ((a * 2 ^ 24 % 4294967296 : Nat) : Int) / 2 ^ 24 % 4294967296 = ((unF 2 a : Nat) : Int) := by
    unfold Fl.sgn unF
    simp only [show (2 : Int) = 0 ↔ False by decide, show (2 : Int) = 1 ↔ False by decide, if_false, if_true]
    split <;> split <;> omega
  rw [e] at h
  exact h
theorem sig16 (a : Nat) (w : World) (ha : a < 4294967296) : Calls Try.prog 186 #[.int .u32 a, .int .i64 16] w fun e w' => e = .returned (.int .u32 (unF 3 a)) ∧ w = w' := by
  have h := sig_gen a 16 16 _ w ha rfl (by decide) (by decide) rfl
  have e : Fl.sgn ((a * 2 ^ 16 % 4294967296 : Nat) : Int) / 2 ^ 16 % 4294967296 = ((unF 3 a : Nat) : Int) := by
    unfold Fl.sgn unF
    simp only [show (3 : Int) = 0 ↔ False by decide, show (3 : Int) = 1 ↔ False by decide, show (3 : Int) = 2 ↔ False by decide, if_false, if_true]
    split <;> split <;> omega
  rw [e] at h
  exact h
set_option maxHeartbeats 1000000 in
theorem pun_any (k : Int) (a : Nat) (w : World) (ha : a < 4294967296) (hk : 0 ≤ k ∧ k ≤ 6) : Calls Try.prog 183 #[.int .i64 k, .int .u32 a] w fun e w' => e = .returned (.int .u32 (unF k a)) ∧ w = w' := by
  have a0 : (0 : Int) ≤ (a : Int) := by omega
  have a1 : (a : Int) < 4294967296 := by omega
  rcases (by omega : k = 0 ∨ k = 1 ∨ k = 2 ∨ k = 3 ∨ k = 4 ∨ k = 5 ∨ k = 6) with rfl | rfl | rfl | rfl | rfl | rfl | rfl
  · have HX : Hid (bits .xor .u32 IntKind.u32.max (a : Int) = ((unF 0 a : Nat) : Int)) := not_any a ha
    clear a0 a1 hk
    go_enter Try.func183, Try.ntmps183; go_wp2; go_ret; exact ⟨retu HX.out, rfl⟩
  · go_enter Try.func183, Try.ntmps183; go_wp2; go_ret; exact ⟨retu (by simp [unF] <;> omega), rfl⟩
  · go_enter Try.func183, Try.ntmps183
    go_wp2_with (go_at_call 186; refine (sig8 a _ ha).mono ?_; rintro e w1 ⟨rfl, rfl⟩)
    go_ret
    exact ⟨rfl, rfl⟩
  · go_enter Try.func183, Try.ntmps183
    go_wp2_with (go_at_call 186; refine (sig16 a _ ha).mono ?_; rintro e w1 ⟨rfl, rfl⟩)
    go_ret
    exact ⟨rfl, rfl⟩
  · have h := and255 a ha
    go_enter Try.func183, Try.ntmps183; go_wp2; go_ret; exact ⟨retu (by simp [unF]), rfl⟩
  · have h := and65535 a ha
    go_enter Try.func183, Try.ntmps183; go_wp2; go_ret; exact ⟨retu (by simp [unF]), rfl⟩
  · go_enter Try.func183, Try.ntmps183
    go_wp2_with (go_at_call 184; refine (truth_any _ _).mono ?_; rintro e w1 ⟨rfl, rfl⟩)
    go_ret
    exact ⟨retu (by by_cases h : a = 0 <;> simp [unF, Fl.isF, h]), rfl⟩
end Go.Proofs.Ytkgbjpdoigdjnaa
