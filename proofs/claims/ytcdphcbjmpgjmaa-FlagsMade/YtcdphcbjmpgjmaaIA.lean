import Derived.Test.YtcdphcbjmpgjmaaProg
import Derived.WalkKit
import Derived.WalkSpells
import Derived.WalkLawsBesides
import Derived.Deep.QuietTactic
import Derived.BigQuiet
import Derived.BigRegion
import Derived.KernelRfl
import Derived.LoopN
import Derived.Laws.BitsAllLaws
import Derived.Test.YtcdphcbjmpgjmaaFE
namespace Go.Proofs.Ytcdphcbjmpgjmaa
open Go.RowKit
set_option maxRecDepth 100000
set_option linter.unusedVariables false
set_option linter.unusedSimpArgs false

/-! ## The highest bit; the program's small functions of package bits -/
theorem ret2 {k1 k2 : IntKind} {a b c d : Int} (h1 : a = c) (h2 : b = d) : Ending.returned (.tuple #[.int k1 a, .int k2 b]) = .returned (.tuple #[.int k1 c, .int k2 d]) := by rw [h1, h2]
theorem hi31 (n : Nat) (h : n < 4294967296) : n / 2147483648 = (n.testBit 31).toNat := by
  have := Fl.tb n 31
  rw [show (2 : Nat) ^ 31 = 2147483648 from rfl] at this
  omega
theorem t31 (n : Nat) (h : n < 4294967296) : n.testBit 31 = decide (2147483648 ≤ n) := by
  have e := hi31 n h
  cases hb : n.testBit 31
  · rw [hb] at e; simp at e; exact (decide_eq_false (by omega)).symm
  · rw [hb] at e; simp at e; exact (decide_eq_true (by omega)).symm
theorem xor_lt {a b : Nat} (ha : a < 4294967296) (hb : b < 4294967296) : a ^^^ b < 4294967296 := Nat.xor_lt_two_pow (n := 32) ha hb
theorem and_lt {a b : Nat} (ha : a < 4294967296) : a &&& b < 4294967296 := Nat.lt_of_le_of_lt Nat.and_le_left ha
theorem or_lt {a b : Nat} (ha : a < 4294967296) (hb : b < 4294967296) : a ||| b < 4294967296 := Nat.or_lt_two_pow (n := 32) ha hb

theorem borrow_bits (a b d : Nat) (c : Int) (ha : a < 4294967296) (hb : b < 4294967296) (hd : d < 4294967296) (hc : 0 ≤ c ∧ c ≤ 1) (e : (d : Int) = ((a : Int) - b - c) % 4294967296) :
    ((((4294967295 ^^^ a) &&& b) ||| ((4294967295 ^^^ (a ^^^ b)) &&& d) : Nat) : Int) / 2147483648 = Fl.isF (decide ((a : Int) - b - c < 0)) 1 := by
  have hx := hi31 (((4294967295 ^^^ a) &&& b) ||| ((4294967295 ^^^ (a ^^^ b)) &&& d)) (or_lt (and_lt (xor_lt (by decide) ha)) (and_lt (xor_lt (by decide) (xor_lt ha hb))))
  rw [show (2147483648 : Int) = ((2147483648 : Nat) : Int) from rfl, ← Int.natCast_ediv, hx]
  simp only [Nat.testBit_or, Nat.testBit_and, Nat.testBit_xor, t31 a ha, t31 b hb, t31 d hd]
  rw [show (4294967295 : Nat).testBit 31 = true from by decide]
  unfold Fl.isF
  by_cases h1 : 2147483648 ≤ a <;> by_cases h2 : 2147483648 ≤ b <;> by_cases h3 : 2147483648 ≤ d <;> by_cases h4 : (a : Int) - b - c < 0 <;> simp [h1, h2, h3, h4] <;> omega
theorem over_add (a b v : Nat) (c : Int) (ha : a < 4294967296) (hb : b < 4294967296) (hv : v < 4294967296) (hc : 0 ≤ c ∧ c ≤ 1) (e : (v : Int) = ((a : Int) + b + c) % 4294967296) :
    ((((a ^^^ v) &&& (b ^^^ v)) : Nat) : Int) / 2147483648 = Fl.isF (Fl.pastB (Fl.sgn a + Fl.sgn b + c)) 1 := by
  have hx := hi31 ((a ^^^ v) &&& (b ^^^ v)) (and_lt (xor_lt ha hv))
  rw [show (2147483648 : Int) = ((2147483648 : Nat) : Int) from rfl, ← Int.natCast_ediv, hx]
  simp only [Nat.testBit_or, Nat.testBit_and, Nat.testBit_xor, t31 a ha, t31 b hb, t31 v hv]
  unfold Fl.isF Fl.pastB Fl.sgn
  by_cases h1 : 2147483648 ≤ a <;> by_cases h2 : 2147483648 ≤ b <;> by_cases h3 : 2147483648 ≤ v <;> simp [h1, h2, h3] <;> omega
theorem over_sub (a b v : Nat) (c : Int) (ha : a < 4294967296) (hb : b < 4294967296) (hv : v < 4294967296) (hc : 0 ≤ c ∧ c ≤ 1) (e : (v : Int) = ((a : Int) - b - c) % 4294967296) :
    ((((a ^^^ b) &&& (a ^^^ v)) : Nat) : Int) / 2147483648 = Fl.isF (Fl.pastB (Fl.sgn a - Fl.sgn b - c)) 1 := by
  have hx := hi31 ((a ^^^ b) &&& (a ^^^ v)) (and_lt (xor_lt ha hb))
  rw [show (2147483648 : Int) = ((2147483648 : Nat) : Int) from rfl, ← Int.natCast_ediv, hx]
  simp only [Nat.testBit_or, Nat.testBit_and, Nat.testBit_xor, t31 a ha, t31 b hb, t31 v hv]
  unfold Fl.isF Fl.pastB Fl.sgn
  by_cases h1 : 2147483648 ≤ a <;> by_cases h2 : 2147483648 ≤ b <;> by_cases h3 : 2147483648 ≤ v <;> simp [h1, h2, h3] <;> omega

/-! ## Turned bits -/
theorem rot_arith (P R a h l1 l0 y : Nat) (hPR : P * R = 2147483648) (ha : a = (h * P + l1) * R + l0) (h0 : l0 < R) (hh : h ≤ 1) (hy : y = l1 * (2 * R) + (2 * l0 + h)) :
    y * P % 4294967296 + y / (2 * R) = a * (2 * P) % 4294967296 + a / R := by
  have hR : 0 < R := by omega
  have hP : 0 < P := Nat.pos_of_ne_zero fun e => by rw [e] at hPR; omega
  have e1 : y / (2 * R) = l1 := by
    rw [hy, Nat.add_comm, Nat.add_mul_div_right _ _ (by omega), Nat.div_eq_of_lt (by omega), Nat.zero_add]
  have e2 : a / R = h * P + l1 := by
    rw [ha, Nat.add_comm, Nat.add_mul_div_right _ _ hR, Nat.div_eq_of_lt h0, Nat.zero_add]
  have e3 : y * P = (2 * l0 + h) * P + l1 * 4294967296 := by
    have : l1 * (2 * R) * P = l1 * (2 * (P * R)) := by rw [Nat.mul_assoc, Nat.mul_assoc 2 R P, Nat.mul_comm R P]
    rw [hy, Nat.add_mul, this, hPR]; omega
  have e4 : a * (2 * P) = 2 * P * l0 + (h * P + l1) * 4294967296 := by
    have : (h * P + l1) * R * (2 * P) = (h * P + l1) * (2 * (P * R)) := by rw [Nat.mul_assoc, Nat.mul_left_comm R 2 P, Nat.mul_comm R P]
    rw [ha, Nat.add_mul, this, hPR, Nat.mul_comm l0]; omega
  have l : (2 * l0 + h) * P < 4294967296 := by
    have : (2 * l0 + h + 1) * P ≤ (2 * R) * P := Nat.mul_le_mul_right _ (by omega)
    have e : (2 * R) * P = 4294967296 := by rw [Nat.mul_assoc, Nat.mul_comm R P, hPR]
    rw [e, Nat.add_mul] at this
    omega
  have l' : 2 * P * l0 < 4294967296 := by
    have e : 2 * P * l0 = 2 * l0 * P := by rw [Nat.mul_assoc, Nat.mul_assoc, Nat.mul_comm P l0]
    have : 2 * l0 * P ≤ (2 * l0 + h) * P := Nat.mul_le_mul_right _ (by omega)
    omega
  have e5 : (2 * l0 + h) * P = 2 * P * l0 + h * P := by rw [Nat.add_mul, Nat.mul_assoc, Nat.mul_assoc, Nat.mul_comm P l0]
  rw [e1, e2, e3, e4, Nat.add_mul_mod_self_right, Nat.add_mul_mod_self_right, Nat.mod_eq_of_lt l, Nat.mod_eq_of_lt l', e5]
  omega
theorem turN_eq : ∀ (n a : Nat), n ≤ 31 → a < 4294967296 → Fl.turN n (a : Int) = ((a * 2 ^ n % 4294967296 + a / 2 ^ (32 - n) : Nat) : Int)
  | 0, a, _, ha => by
    rw [show a * 2 ^ 0 % 4294967296 + a / 2 ^ (32 - 0) = a from by rw [show (2 : Nat) ^ (32 - 0) = 4294967296 from rfl]; omega]; rfl
  | n + 1, a, hn, ha => by
    have ih := turN_eq n (a * 2 % 4294967296 + a / 2147483648) (by omega) (by omega)
    have e : Fl.turN (n + 1) (a : Int) = Fl.turN n ((a * 2 % 4294967296 + a / 2147483648 : Nat) : Int) := by
      show Fl.turN n (Fl.tur1 a) = _
      congr 1
      unfold Fl.tur1; omega
    rw [e, ih]
    congr 1
    have hPR : 2 ^ n * 2 ^ (31 - n) = 2147483648 := by rw [← Nat.pow_add, show n + (31 - n) = 31 by omega]
    have e2 : (2 : Nat) ^ (32 - n) = 2 * 2 ^ (31 - n) := by rw [show 32 - n = (31 - n) + 1 by omega, Nat.pow_succ, Nat.mul_comm]
    have e3 : (2 : Nat) ^ (n + 1) = 2 * 2 ^ n := by rw [Nat.pow_succ, Nat.mul_comm]
    rw [e2, e3, show 32 - (n + 1) = 31 - n by omega]
    have hR : 0 < 2 ^ (31 - n) := Nat.two_pow_pos _
    generalize 2 ^ n = P at *
    generalize 2 ^ (31 - n) = R at *
    have hd := Nat.div_add_mod (a % 2147483648) R
    refine rot_arith P R a (a / 2147483648) (a % 2147483648 / R) (a % 2147483648 % R) _ hPR ?_ (Nat.mod_lt _ hR) (by omega) ?_
    · rw [Nat.add_mul, Nat.mul_assoc, hPR, Nat.mul_comm (a % 2147483648 / R) R]; omega
    · rw [Nat.mul_left_comm, Nat.mul_comm (a % 2147483648 / R) R]; omega
theorem rot_or (n a : Nat) (hn : n ≤ 31) (ha : a < 4294967296) : ((a * 2 ^ n % 4294967296) ||| (a / 2 ^ (32 - n)) : Nat) = a * 2 ^ n % 4294967296 + a / 2 ^ (32 - n) := by
  refine Go.nat_join n _ _ ?_ ?_
  · have h : (2 : Nat) ^ n ∣ 4294967296 := ⟨2 ^ (32 - n), by rw [← Nat.pow_add]; rw [show n + (32 - n) = 32 by omega]⟩
    rw [Nat.mod_mod_of_dvd _ h]; exact Nat.mul_mod_left _ _
  · rw [Nat.div_lt_iff_lt_mul (Nat.two_pow_pos _), ← Nat.pow_add, show n + (32 - n) = 32 by omega]; exact ha

set_option maxHeartbeats 1000000 in
theorem add32 (a b c : Nat) (w : World) (ha : a < 4294967296) (hb : b < 4294967296) (hc : c ≤ 1) :
    Calls Try.prog 107 #[.int .u32 a, .int .u32 b, .int .u32 c] w fun e w' => e = .returned (.tuple #[.int .u32 (((a : Int) + b + c) % 4294967296), .int .u32 (((a : Int) + b + c) / 4294967296)]) ∧ w = w' := by
  go_enter Try.func107, Try.ntmps107
  go_wp2
  go_ret2
  exact ⟨rfl, rfl⟩
theorem or_small : ∀ c p q : Fin 2, bits .or .u32 (bits .or .u32 ((c.val : Int) * 4) ((p.val : Int) * 8)) ((q.val : Int) * 2) = (c.val : Int) * 4 + p.val * 8 + q.val * 2 ∧ bits .or .u32 (bits .or .u32 (bits .or .u32 ((c.val : Int) * 4) ((p.val : Int) * 8)) ((q.val : Int) * 2)) 1 = (c.val : Int) * 4 + p.val * 8 + q.val * 2 + 1 := by decide +kernel
set_option maxHeartbeats 1000000 in
theorem flagsOf_any (v c p : Nat) (w : World) (ha : v < 4294967296) (hb : c ≤ 1) (hc : p ≤ 1) :
    Calls Try.prog 106 #[.int .u32 v, .int .u32 c, .int .u32 p] w fun e w' => e = .returned (.int .u32 (Fl.valF v + c * 4 + p * 8)) ∧ w = w' := by
  have o := or_small ⟨c, by omega⟩ ⟨p, by omega⟩ ⟨v / 2147483648, by omega⟩
  have oe : (((v / 2147483648 : Nat)) : Int) = (v : Int) / 2147483648 := by omega
  simp only [oe] at o
  have HO : Hid _ := o
  clear o oe
  by_cases hv : v = 0
  · have hz : ((v : Int) == 0) = true := by simp [hv]
    have HV : Hid (v = 0) := hv
    clear hv
    go_enter Try.func106, Try.ntmps106
    go_wp2
    go_ret
    refine ⟨Fl.ret_int (HO.out.2.trans ?_), rfl⟩
    unfold Fl.valF Fl.isF
    rw [hz]
    simp [HV.out]; omega
  · have hz : ((v : Int) == 0) = false := by simp [hv]
    clear hv
    go_enter Try.func106, Try.ntmps106
    go_wp2
    go_ret
    refine ⟨Fl.ret_int (HO.out.1.trans ?_), rfl⟩
    unfold Fl.valF Fl.isF
    rw [hz]
    by_cases h : 2147483648 ≤ (v : Int)
    · simp [h]; omega
    · simp [h]; omega
set_option maxHeartbeats 1000000 in
theorem sub32 (a b c d : Nat) (w : World) (hd : (d : Int) = ((a : Int) - b - c) % 4294967296) (ha : a < 4294967296) (hb : b < 4294967296) (hc : c ≤ 1) :
    Calls Try.prog 108 #[.int .u32 a, .int .u32 b, .int .u32 c] w fun e w' => e = .returned (.tuple #[.int .u32 d, .int .u32 (Fl.isF (decide ((a : Int) - b - c < 0)) 1)]) ∧ w = w' := by
  have hdl : d < 4294967296 := by omega
  have HD : Hid _ := hd
  clear hd
  go_enter Try.func108, Try.ntmps108
  go_wp2
  go_ret2
  refine ⟨ret2 HD.out.symm ?_, rfl⟩
  rw [← borrow_bits a b d c ha hb hdl (by omega) HD.out, ← HD.out]
  rw [show IntKind.u32.max = ((4294967295 : Nat) : Int) from rfl, Go.u32_xor_nat _ _ (by decide) ha, Go.u32_xor_nat _ _ ha hb, Go.u32_xor_nat _ _ (by decide) (xor_lt ha hb), Go.u32_and_nat _ _ (xor_lt (by decide) ha) hb, Go.u32_and_nat _ _ (xor_lt (by decide) (xor_lt ha hb)) hdl, Go.u32_or_nat _ _ (and_lt (xor_lt (by decide) ha)) (and_lt (xor_lt (by decide) (xor_lt ha hb)))]
set_option maxHeartbeats 1000000 in
theorem mul32 (a b : Nat) (w : World) (ha : a < 4294967296) (hb : b < 4294967296) :
    Calls Try.prog 109 #[.int .u32 a, .int .u32 b] w fun e w' => e = .returned (.tuple #[.int .u32 ((a * b / 4294967296 : Nat) : Int), .int .u32 ((a * b % 4294967296 : Nat) : Int)]) ∧ w = w' := by
  have hm : a * b < 4294967296 * 4294967296 := Nat.mul_lt_mul'' ha hb
  have hw : IntKind.u64.wrap ((a : Int) * b) = ((a * b : Nat) : Int) := by
    rw [show IntKind.u64.wrap ((a : Int) * b) = ((a : Int) * b) % 18446744073709551616 from by simp [IntKind.wrap, IntKind.bits, IntKind.signed]]
    rw [← Int.natCast_mul]
    omega
  have hq : ((a * b : Nat) : Int) / 4294967296 % 4294967296 = ((a * b : Nat) : Int) / 4294967296 := by omega
  go_enter Try.func109, Try.ntmps109
  go_wp2
  go_ret2
  refine ⟨ret2 ?_ ?_, rfl⟩
  · rw [Int.natCast_ediv, Int.natCast_mul]; first | rfl | omega
  · rw [Int.natCast_emod, Int.natCast_mul]; first | rfl | omega
set_option maxHeartbeats 1000000 in
theorem rot32 (a : Nat) (n : Nat) (w : World) (ha : a < 4294967296) (hn : n < 32) :
    Calls Try.prog 105 #[.int .u32 a, .int .i64 n] w fun e w' => e = .returned (.int .u32 (Fl.turN n a)) ∧ w = w' := by
  have hb : bits .and .u64 (n : Int) 31 = (n : Int) := by
    rw [show (31 : Int) = ((31 : Nat) : Int) from rfl, Go.u64_and_nat _ _ (by omega) (by decide), Go.nat_mask5]; omega
  have h1 : (0 : Int) ≤ n := by omega
  have h2 : (0 : Int) ≤ 32 - n := by omega
  go_enter Try.func105, Try.ntmps105
  go_wp2
  go_ret
  refine ⟨Fl.ret_int ?_, rfl⟩
  rw [turN_eq n a (by omega) ha, ← rot_or n a (by omega) ha]
  have e1 : (a : Int) * 2 ^ n % 4294967296 = ((a * 2 ^ n % 4294967296 : Nat) : Int) := by rw [Int.natCast_emod, Int.natCast_mul, Int.natCast_pow]; rfl
  have e2 : (a : Int) / 2 ^ (32 - n) = ((a / 2 ^ (32 - n) : Nat) : Int) := by rw [Int.natCast_ediv, Int.natCast_pow]; rfl
  rw [e1, e2]
  exact Go.u32_or_nat _ _ (by omega) (Nat.lt_of_le_of_lt (Nat.div_le_self _ _) ha)
end Go.Proofs.Ytcdphcbjmpgjmaa
