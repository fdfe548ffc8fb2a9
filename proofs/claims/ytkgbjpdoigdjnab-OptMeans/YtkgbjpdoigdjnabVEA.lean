import Derived.Test.YtkgbjpdoigdjnabVJ29
import Derived.Test.YtkgbjpdoigdjnabVJ07
set_option linter.unusedVariables false
set_option linter.unusedSimpArgs false
set_option maxHeartbeats 1000000
namespace Go.Proofs.Ytkgbjpdoigdjnab.Va
open Go.RowKit
set_option maxRecDepth 100000
def unF (w : Int) (a : Nat) : Nat :=
 if w = 0 then 4294967295 - a else if w = 1 then (4294967296 - a) % 4294967296 else if w = 2 then (if 128 ≤ a % 256 then a % 256 + 4294967040 else a % 256)
 else if w = 3 then (if 32768 ≤ a % 65536 then a % 65536 + 4294901760 else a % 65536) else if w = 4 then a % 256 else if w = 5 then a % 65536 else if a = 0 then 1 else 0
theorem truth_any (b : Bool) (w : World) : Calls Try.prog 201 #[.bool b] w fun e w' => e = .returned (.int .u32 (Fl.isF b 1)) ∧ w = w' := by
 cases b <;> (go_enter Try.func201, Try.ntmps201; go_wp2; go_ret; exact ⟨rfl, rfl⟩)
theorem retu {a b : Int} (h : a = b) : Ending.returned (.int .u32 a) = .returned (.int .u32 b) := by rw [h]
theorem not_nat (a : Nat) (ha : a < 4294967296) : 4294967295 ^^^ a = 4294967295 - a := by
 apply Nat.eq_of_testBit_eq
 intro i
 rw [Nat.testBit_xor, show (4294967295 : Nat) - a = 2 ^ 32 - (a + 1) by omega, Nat.testBit_two_pow_sub_succ (by simpa using ha), show (4294967295 : Nat) = 2 ^ 32 - 1 from rfl, Nat.testBit_two_pow_sub_one]
 by_cases hi : i < 32
 ·simp [hi]
 ·have : a.testBit i = false := Nat.testBit_lt_two_pow (Nat.lt_of_lt_of_le (show a < 2 ^ 32 by simpa using ha) (Nat.pow_le_pow_right (by decide) (by omega)))
  simp [hi, this]
theorem not_any (a : Nat) (ha : a < 4294967296) : bits .xor .u32 IntKind.u32.max (a : Int) = ((4294967295 - a : Nat) : Int) := by
 rw [show IntKind.u32.max = ((4294967295 : Nat) : Int) from rfl, Go.u32_xor_nat _ _ (by decide) ha, not_nat a ha]
theorem and255 (x : Nat) (hx : x < 4294967296) : bits .and .u32 (x : Int) 255 = ((x % 256 : Nat) : Int) := by
 rw [show (255 : Int) = ((255 : Nat) : Int) from rfl, Go.u32_and_nat _ _ hx (by decide)]
 exact congrArg _ (Nat.and_two_pow_sub_one_eq_mod x 8)
theorem and65535 (x : Nat) (hx : x < 4294967296) : bits .and .u32 (x : Int) 65535 = ((x % 65536 : Nat) : Int) := by
 rw [show (65535 : Int) = ((65535 : Nat) : Int) from rfl, Go.u32_and_nat _ _ hx (by decide)]
 exact congrArg _ (Nat.and_two_pow_sub_one_eq_mod x 16)
theorem sig_gen (a n m y : Nat) (w : World) (ha : a < 4294967296) (hm : n + m = 32) (h1 : 1 ≤ n) (h0 : 1 ≤ m) (hy : a * 2 ^ m % 4294967296 = y) : Calls Try.prog 216 #[.int .u32 a, .int .i64 n] w fun e w' => e = .returned (.int .u32 (Fl.sgn y / 2 ^ m % 4294967296)) ∧ w = w' := by
 have hsub : (32 : Int) - (n : Int) = (m : Int) := by omega
 have m0 : (0 : Int) ≤ (m : Int) := by omega
 have n1 : (n : Int) ≤ 32 := by omega
 have n0 : (0 : Int) ≤ (n : Int) := by omega
 have hyl : y < 4294967296 := by omega
 have hs : IntKind.u32.wrap ((a : Int) * 2 ^ m) = (y : Int) := by rw [shl_cast, wrap_u32n, hy]
 have hw : wrap32 (y : Int) = Fl.sgn y := wrap32_sgn y hyl
 clear hy hm
 go_enter Try.func216, Try.ntmps216
 go_wp2
 go_ret
 exact ⟨rfl, rfl⟩
theorem sig8 (a : Nat) (w : World) (ha : a < 4294967296) : Calls Try.prog 216 #[.int .u32 a, .int .i64 8] w fun e w' => e = .returned (.int .u32 (unF 2 a)) ∧ w = w' := by
 have h := sig_gen a 8 24 _ w ha rfl (by decide) (by decide) rfl
 have e : Fl.sgn ((a * 2 ^ 24 % 4294967296 : Nat) : Int) / 2 ^ 24 % 4294967296 = ((unF 2 a : Nat) : Int) := by
  unfold Fl.sgn unF
  simp only [show (2 : Int) = 0 ↔ False by decide, show (2 : Int) = 1 ↔ False by decide, if_false, if_true]
  split <;> split <;> omega
 rw [e] at h
 exact h
theorem sig16 (a : Nat) (w : World) (ha : a < 4294967296) : Calls Try.prog 216 #[.int .u32 a, .int .i64 16] w fun e w' => e = .returned (.int .u32 (unF 3 a)) ∧ w = w' := by
 have h := sig_gen a 16 16 _ w ha rfl (by decide) (by decide) rfl
 have e : Fl.sgn ((a * 2 ^ 16 % 4294967296 : Nat) : Int) / 2 ^ 16 % 4294967296 = ((unF 3 a : Nat) : Int) := by
  unfold Fl.sgn unF
  simp only [show (3 : Int) = 0 ↔ False by decide, show (3 : Int) = 1 ↔ False by decide, show (3 : Int) = 2 ↔ False by decide, if_false, if_true]
  split <;> split <;> omega
 rw [e] at h
 exact h
theorem pun_any (k : Int) (a : Nat) (w : World) (ha : a < 4294967296) (hk : 0 ≤ k ∧ k ≤ 6) : Calls Try.prog 199 #[.int .i64 k, .int .u32 a] w fun e w' => e = .returned (.int .u32 (unF k a)) ∧ w = w' := by
 have a0 : (0 : Int) ≤ (a : Int) := by omega
 have a1 : (a : Int) < 4294967296 := by omega
 rcases (by omega : k = 0 ∨ k = 1 ∨ k = 2 ∨ k = 3 ∨ k = 4 ∨ k = 5 ∨ k = 6) with rfl | rfl | rfl | rfl | rfl | rfl | rfl
 ·have HX : Hid (bits .xor .u32 IntKind.u32.max (a : Int) = ((unF 0 a : Nat) : Int)) := not_any a ha
  clear a0 a1 hk
  go_enter Try.func199, Try.ntmps199; go_wp2; go_ret; exact ⟨retu HX.out, rfl⟩
 ·go_enter Try.func199, Try.ntmps199; go_wp2; go_ret; exact ⟨retu (by simp [unF] <;> omega), rfl⟩
 ·go_enter Try.func199, Try.ntmps199
  go_wp2_with (go_at_call 216; refine (sig8 a _ ha).mono ?_; rintro e w1 ⟨rfl, rfl⟩)
  go_ret
  exact ⟨rfl, rfl⟩
 ·go_enter Try.func199, Try.ntmps199
  go_wp2_with (go_at_call 216; refine (sig16 a _ ha).mono ?_; rintro e w1 ⟨rfl, rfl⟩)
  go_ret
  exact ⟨rfl, rfl⟩
 ·have h := and255 a ha
  go_enter Try.func199, Try.ntmps199; go_wp2; go_ret; exact ⟨retu (by simp [unF]), rfl⟩
 ·have h := and65535 a ha
  go_enter Try.func199, Try.ntmps199; go_wp2; go_ret; exact ⟨retu (by simp [unF]), rfl⟩
 ·go_enter Try.func199, Try.ntmps199
  go_wp2_with (go_at_call 201; refine (truth_any _ _).mono ?_; rintro e w1 ⟨rfl, rfl⟩)
  go_ret
  exact ⟨retu (by by_cases h : a = 0 <;> simp [unF, Fl.isF, h]), rfl⟩
def aluOf (w : Int) : Int := if w = 0 then 0 else if w = 1 then 2 else if w = 2 then 4 else if w = 3 then 5 else if w = 4 then 6 else if w = 5 then 9 else if w = 6 then 10 else if w = 7 then 11 else if w = 8 then 12 else if w = 9 then 13 else 0
def binF (w : Int) (a b : Nat) : Int :=
 if w < 10 then Fl.recX (aluOf w) a b 0 else if w = 10 then ((a * b / 4294967296 : Nat) : Int) else if w = 11 then (if b = 0 then 4294967295 else ((a / b : Nat) : Int))
 else if w = 12 then (if b = 0 then (a : Int) else ((a % b : Nat) : Int)) else if w = 13 then Fl.isF ((a : Int) == (b : Int)) 1 else if w = 14 then Fl.isF (decide (a < b)) 1 else Fl.isF (decide (Fl.sgn a < Fl.sgn b)) 1
theorem mul_bd (a b : Nat) (ha : a < 4294967296) (hb : b < 4294967296) : a * b < 18446744073709551616 := by
 have : a * b ≤ 4294967295 * 4294967295 := Nat.mul_le_mul (by omega) (by omega)
 omega
theorem is3_any (b : Bool) (w : World) : Calls Try.prog 147 #[.bool b] w fun e w' => e = .returned (.int .u32 (Fl.isF b 1)) ∧ w = w' := by
 cases b <;> (go_enter Try.func147, Try.ntmps147; go_wp2; go_ret; exact ⟨rfl, rfl⟩)
theorem sgn3_any (x : Int) (w : World) (h0 : 0 ≤ x) (h1 : x < 4294967296) : Calls Try.prog 181 #[.int .u32 x] w fun e w' => e = .returned (.int .i64 (Fl.sgn x)) ∧ w = w' := by
 by_cases h : 2147483648 ≤ x
 ·rw [Fl.sgn, if_pos h]
  go_enter Try.func181, Try.ntmps181; go_wp2; go_ret; exact ⟨rfl, rfl⟩
 ·rw [Fl.sgn, if_neg h]
  go_enter Try.func181, Try.ntmps181; go_wp2; go_ret; exact ⟨rfl, rfl⟩
theorem run_any (k : Int) (a : Nat) (w : World) (ha : a < 4294967296) (hk : 0 ≤ k ∧ k ≤ 6) : Calls Try.prog 144 #[.int .i64 k, .int .u32 a] w fun e w' => e = .returned (.int .u32 (unF k a)) ∧ w = w' := by
 have a0 : (0 : Int) ≤ (a : Int) := by omega
 have a1 : (a : Int) < 4294967296 := by omega
 rcases (by omega : k = 0 ∨ k = 1 ∨ k = 2 ∨ k = 3 ∨ k = 4 ∨ k = 5 ∨ k = 6) with rfl | rfl | rfl | rfl | rfl | rfl | rfl
 ·go_enter Try.func144, Try.ntmps144; go_wp2; go_ret; exact ⟨retu (by simp [unF] <;> omega), rfl⟩
 ·go_enter Try.func144, Try.ntmps144; go_wp2; go_ret; exact ⟨retu (by simp [unF] <;> omega), rfl⟩
 ·by_cases h : 128 ≤ a % 256
  ·have d : decide (128 ≤ (a : Int) % 256) = true := decide_eq_true (by omega)
   go_enter Try.func144, Try.ntmps144; go_wp2; go_ret; exact ⟨retu (by simp [unF, h] <;> omega), rfl⟩
  ·have d : decide (128 ≤ (a : Int) % 256) = false := decide_eq_false (by omega)
   go_enter Try.func144, Try.ntmps144; go_wp2; go_ret; exact ⟨retu (by simp [unF, h]), rfl⟩
 ·by_cases h : 32768 ≤ a % 65536
  ·have d : decide (32768 ≤ (a : Int) % 65536) = true := decide_eq_true (by omega)
   go_enter Try.func144, Try.ntmps144; go_wp2; go_ret; exact ⟨retu (by simp [unF, h] <;> omega), rfl⟩
  ·have d : decide (32768 ≤ (a : Int) % 65536) = false := decide_eq_false (by omega)
   go_enter Try.func144, Try.ntmps144; go_wp2; go_ret; exact ⟨retu (by simp [unF, h]), rfl⟩
 ·go_enter Try.func144, Try.ntmps144; go_wp2; go_ret; exact ⟨retu (by simp [unF]), rfl⟩
 ·go_enter Try.func144, Try.ntmps144; go_wp2; go_ret; exact ⟨retu (by simp [unF]), rfl⟩
 ·go_enter Try.func144, Try.ntmps144
  go_wp2_with (go_at_call 147; refine (is3_any _ _).mono ?_; rintro e w1 ⟨rfl, rfl⟩)
  go_ret
  exact ⟨retu (by by_cases h : a = 0 <;> simp [unF, Fl.isF, h]), rfl⟩
theorem rbin0 (a b : Nat) (w : World) (ha : a < 4294967296) (hb : b < 4294967296) : Calls Try.prog 146 #[.int .i64 0, .int .u32 a, .int .u32 b] w fun e w' => e = .returned (.int .u32 (binF 0 a b)) ∧ Below w.heap.size w w' := by
 have HA : Hid _ := ha
 have HB : Hid _ := hb
 clear ha hb
 go_enter Try.func146, Try.ntmps146
 go_wp2_with (go_at_call 180; refine (Fl.reck_any 0 a b 0 _ HA.out HB.out (by decide)).mono ?_; rintro e w1 ⟨rfl, rfl⟩)
 go_ret
 exact ⟨rfl, wk_bel1 w _⟩
theorem rbin1 (a b : Nat) (w : World) (ha : a < 4294967296) (hb : b < 4294967296) : Calls Try.prog 146 #[.int .i64 1, .int .u32 a, .int .u32 b] w fun e w' => e = .returned (.int .u32 (binF 1 a b)) ∧ Below w.heap.size w w' := by
 have HA : Hid _ := ha
 have HB : Hid _ := hb
 clear ha hb
 go_enter Try.func146, Try.ntmps146
 go_wp2_with (go_at_call 180; refine (Fl.reck_any 2 a b 0 _ HA.out HB.out (by decide)).mono ?_; rintro e w1 ⟨rfl, rfl⟩)
 go_ret
 exact ⟨rfl, wk_bel1 w _⟩
theorem rbin2 (a b : Nat) (w : World) (ha : a < 4294967296) (hb : b < 4294967296) : Calls Try.prog 146 #[.int .i64 2, .int .u32 a, .int .u32 b] w fun e w' => e = .returned (.int .u32 (binF 2 a b)) ∧ Below w.heap.size w w' := by
 have HA : Hid _ := ha
 have HB : Hid _ := hb
 clear ha hb
 go_enter Try.func146, Try.ntmps146
 go_wp2_with (go_at_call 180; refine (Fl.reck_any 4 a b 0 _ HA.out HB.out (by decide)).mono ?_; rintro e w1 ⟨rfl, rfl⟩)
 go_ret
 exact ⟨rfl, wk_bel1 w _⟩
theorem rbin3 (a b : Nat) (w : World) (ha : a < 4294967296) (hb : b < 4294967296) : Calls Try.prog 146 #[.int .i64 3, .int .u32 a, .int .u32 b] w fun e w' => e = .returned (.int .u32 (binF 3 a b)) ∧ Below w.heap.size w w' := by
 have HA : Hid _ := ha
 have HB : Hid _ := hb
 clear ha hb
 go_enter Try.func146, Try.ntmps146
 go_wp2_with (go_at_call 180; refine (Fl.reck_any 5 a b 0 _ HA.out HB.out (by decide)).mono ?_; rintro e w1 ⟨rfl, rfl⟩)
 go_ret
 exact ⟨rfl, wk_bel1 w _⟩
theorem rbin4 (a b : Nat) (w : World) (ha : a < 4294967296) (hb : b < 4294967296) : Calls Try.prog 146 #[.int .i64 4, .int .u32 a, .int .u32 b] w fun e w' => e = .returned (.int .u32 (binF 4 a b)) ∧ Below w.heap.size w w' := by
 have HA : Hid _ := ha
 have HB : Hid _ := hb
 clear ha hb
 go_enter Try.func146, Try.ntmps146
 go_wp2_with (go_at_call 180; refine (Fl.reck_any 6 a b 0 _ HA.out HB.out (by decide)).mono ?_; rintro e w1 ⟨rfl, rfl⟩)
 go_ret
 exact ⟨rfl, wk_bel1 w _⟩
theorem rbin5 (a b : Nat) (w : World) (ha : a < 4294967296) (hb : b < 4294967296) : Calls Try.prog 146 #[.int .i64 5, .int .u32 a, .int .u32 b] w fun e w' => e = .returned (.int .u32 (binF 5 a b)) ∧ Below w.heap.size w w' := by
 have HA : Hid _ := ha
 have HB : Hid _ := hb
 clear ha hb
 go_enter Try.func146, Try.ntmps146
 go_wp2_with (go_at_call 180; refine (Fl.reck_any 9 a b 0 _ HA.out HB.out (by decide)).mono ?_; rintro e w1 ⟨rfl, rfl⟩)
 go_ret
 exact ⟨rfl, wk_bel1 w _⟩
theorem rbin6 (a b : Nat) (w : World) (ha : a < 4294967296) (hb : b < 4294967296) : Calls Try.prog 146 #[.int .i64 6, .int .u32 a, .int .u32 b] w fun e w' => e = .returned (.int .u32 (binF 6 a b)) ∧ Below w.heap.size w w' := by
 have HA : Hid _ := ha
 have HB : Hid _ := hb
 clear ha hb
 go_enter Try.func146, Try.ntmps146
 go_wp2_with (go_at_call 180; refine (Fl.reck_any 10 a b 0 _ HA.out HB.out (by decide)).mono ?_; rintro e w1 ⟨rfl, rfl⟩)
 go_ret
 exact ⟨rfl, wk_bel1 w _⟩
theorem rbin7 (a b : Nat) (w : World) (ha : a < 4294967296) (hb : b < 4294967296) : Calls Try.prog 146 #[.int .i64 7, .int .u32 a, .int .u32 b] w fun e w' => e = .returned (.int .u32 (binF 7 a b)) ∧ Below w.heap.size w w' := by
 have HA : Hid _ := ha
 have HB : Hid _ := hb
 clear ha hb
 go_enter Try.func146, Try.ntmps146
 go_wp2_with (go_at_call 180; refine (Fl.reck_any 11 a b 0 _ HA.out HB.out (by decide)).mono ?_; rintro e w1 ⟨rfl, rfl⟩)
 go_ret
 exact ⟨rfl, wk_bel1 w _⟩
theorem rbin8 (a b : Nat) (w : World) (ha : a < 4294967296) (hb : b < 4294967296) : Calls Try.prog 146 #[.int .i64 8, .int .u32 a, .int .u32 b] w fun e w' => e = .returned (.int .u32 (binF 8 a b)) ∧ Below w.heap.size w w' := by
 have HA : Hid _ := ha
 have HB : Hid _ := hb
 clear ha hb
 go_enter Try.func146, Try.ntmps146
 go_wp2_with (go_at_call 180; refine (Fl.reck_any 12 a b 0 _ HA.out HB.out (by decide)).mono ?_; rintro e w1 ⟨rfl, rfl⟩)
 go_ret
 exact ⟨rfl, wk_bel1 w _⟩
theorem rbin9 (a b : Nat) (w : World) (ha : a < 4294967296) (hb : b < 4294967296) : Calls Try.prog 146 #[.int .i64 9, .int .u32 a, .int .u32 b] w fun e w' => e = .returned (.int .u32 (binF 9 a b)) ∧ Below w.heap.size w w' := by
 have HA : Hid _ := ha
 have HB : Hid _ := hb
 clear ha hb
 go_enter Try.func146, Try.ntmps146
 go_wp2_with (go_at_call 180; refine (Fl.reck_any 13 a b 0 _ HA.out HB.out (by decide)).mono ?_; rintro e w1 ⟨rfl, rfl⟩)
 go_ret
 exact ⟨rfl, wk_bel1 w _⟩
theorem rbin10 (a b : Nat) (w : World) (ha : a < 4294967296) (hb : b < 4294967296) : Calls Try.prog 146 #[.int .i64 10, .int .u32 a, .int .u32 b] w fun e w' => e = .returned (.int .u32 (binF 10 a b)) ∧ Below w.heap.size w w' := by
 obtain ⟨p, hp⟩ : ∃ p : Nat, a * b = p := ⟨_, rfl⟩
 have hpl : p < 18446744073709551616 := hp ▸ mul_bd a b ha hb
 have hpi : (a : Int) * (b : Int) = (p : Int) := by rw [← Int.natCast_mul, hp]
 have p0 : (0 : Int) ≤ (p : Int) := by omega
 have p1 : (p : Int) < 18446744073709551616 := by omega
 have a0 : (0 : Int) ≤ (a : Int) := by omega
 have a1 : (a : Int) < 4294967296 := by omega
 have b0 : (0 : Int) ≤ (b : Int) := by omega
 have b1 : (b : Int) < 4294967296 := by omega
 have HP : Hid _ := hp
 clear hp ha hb
 go_enter Try.func146, Try.ntmps146
 go_wp2
 go_ret
 exact ⟨retu (by show _ = ((a * b / 4294967296 : Nat) : Int); rw [HP.out]; omega), wk_bel1 w _⟩
theorem rbin11 (a b : Nat) (w : World) (ha : a < 4294967296) (hb : b < 4294967296) : Calls Try.prog 146 #[.int .i64 11, .int .u32 a, .int .u32 b] w fun e w' => e = .returned (.int .u32 (binF 11 a b)) ∧ Below w.heap.size w w' := by
 by_cases h : b = 0
 ·subst h
  go_enter Try.func146, Try.ntmps146
  go_wp2
  go_ret
  exact ⟨rfl, wk_bel1 w _⟩
 ·have d : ((b : Int) == 0) = false := by simp; omega
  have a0 : (0 : Int) ≤ (a : Int) := by omega
  have b0 : (1 : Int) ≤ (b : Int) := by omega
  go_enter Try.func146, Try.ntmps146
  go_wp2
  go_ret
  exact ⟨retu (by
   have e : ((a : Int) / (b : Int)) % 4294967296 = ((a / b : Nat) : Int) := by (have hq := Nat.div_le_self a b; rw [← Int.natCast_ediv]; generalize a / b = q at hq ⊢; omega)
   simp only [binF, h]; simpa using e), wk_bel1 w _⟩
theorem rbin12 (a b : Nat) (w : World) (ha : a < 4294967296) (hb : b < 4294967296) : Calls Try.prog 146 #[.int .i64 12, .int .u32 a, .int .u32 b] w fun e w' => e = .returned (.int .u32 (binF 12 a b)) ∧ Below w.heap.size w w' := by
 by_cases h : b = 0
 ·subst h
  go_enter Try.func146, Try.ntmps146
  go_wp2
  go_ret
  exact ⟨rfl, wk_bel1 w _⟩
 ·have d : ((b : Int) == 0) = false := by simp; omega
  have a0 : (0 : Int) ≤ (a : Int) := by omega
  have b0 : (1 : Int) ≤ (b : Int) := by omega
  go_enter Try.func146, Try.ntmps146
  go_wp2
  go_ret
  exact ⟨retu (by simp [binF, h]), wk_bel1 w _⟩
theorem rbin13 (a b : Nat) (w : World) (ha : a < 4294967296) (hb : b < 4294967296) : Calls Try.prog 146 #[.int .i64 13, .int .u32 a, .int .u32 b] w fun e w' => e = .returned (.int .u32 (binF 13 a b)) ∧ Below w.heap.size w w' := by
 go_enter Try.func146, Try.ntmps146
 go_wp2_with (go_at_call 147; refine (is3_any _ _).mono ?_; rintro e w1 ⟨rfl, rfl⟩)
 go_ret
 exact ⟨rfl, wk_bel1 w _⟩
theorem rbin14 (a b : Nat) (w : World) (ha : a < 4294967296) (hb : b < 4294967296) : Calls Try.prog 146 #[.int .i64 14, .int .u32 a, .int .u32 b] w fun e w' => e = .returned (.int .u32 (binF 14 a b)) ∧ Below w.heap.size w w' := by
 go_enter Try.func146, Try.ntmps146
 go_wp2_with (go_at_call 147; refine (is3_any _ _).mono ?_; rintro e w1 ⟨rfl, rfl⟩)
 go_ret
 exact ⟨rfl, wk_bel1 w _⟩
theorem rbin15 (a b : Nat) (w : World) (ha : a < 4294967296) (hb : b < 4294967296) : Calls Try.prog 146 #[.int .i64 15, .int .u32 a, .int .u32 b] w fun e w' => e = .returned (.int .u32 (binF 15 a b)) ∧ Below w.heap.size w w' := by
 have a0 : (0 : Int) ≤ (a : Int) := by omega
 have a1 : (a : Int) < 4294967296 := by omega
 have b0 : (0 : Int) ≤ (b : Int) := by omega
 have b1 : (b : Int) < 4294967296 := by omega
 go_enter Try.func146, Try.ntmps146
 go_wp2_with (first
  | (go_at_call 181; have HZ := HQ1; refine (sgn3_any b _ b0 b1).mono ?_; rintro e w1 ⟨rfl, rfl⟩)
  | (go_at_call 181; refine (sgn3_any a _ a0 a1).mono ?_; rintro e w1 ⟨rfl, rfl⟩; have HQ1 : Hid True := trivial)
  | (go_at_call 147; refine (is3_any _ _).mono ?_; rintro e w1 ⟨rfl, rfl⟩))
 go_ret
 exact ⟨rfl, wk_bel1 w _⟩
theorem rbin_any (k : Int) (a b : Nat) (w : World) (ha : a < 4294967296) (hb : b < 4294967296) (hk : 0 ≤ k ∧ k ≤ 15) : Calls Try.prog 146 #[.int .i64 k, .int .u32 a, .int .u32 b] w fun e w' => e = .returned (.int .u32 (binF k a b)) ∧ Below w.heap.size w w' := by
 rcases (by omega : k = 0 ∨ k = 1 ∨ k = 2 ∨ k = 3 ∨ k = 4 ∨ k = 5 ∨ k = 6 ∨ k = 7 ∨ k = 8 ∨ k = 9 ∨ k = 10 ∨ k = 11 ∨ k = 12 ∨ k = 13 ∨ k = 14 ∨ k = 15) with rfl | rfl | rfl | rfl | rfl | rfl | rfl | rfl | rfl | rfl | rfl | rfl | rfl | rfl | rfl | rfl
 ·exact rbin0 a b w ha hb
 ·exact rbin1 a b w ha hb
 ·exact rbin2 a b w ha hb
 ·exact rbin3 a b w ha hb
 ·exact rbin4 a b w ha hb
 ·exact rbin5 a b w ha hb
 ·exact rbin6 a b w ha hb
 ·exact rbin7 a b w ha hb
 ·exact rbin8 a b w ha hb
 ·exact rbin9 a b w ha hb
 ·exact rbin10 a b w ha hb
 ·exact rbin11 a b w ha hb
 ·exact rbin12 a b w ha hb
 ·exact rbin13 a b w ha hb
 ·exact rbin14 a b w ha hb
 ·exact rbin15 a b w ha hb
end Go.Proofs.Ytkgbjpdoigdjnab.Va
