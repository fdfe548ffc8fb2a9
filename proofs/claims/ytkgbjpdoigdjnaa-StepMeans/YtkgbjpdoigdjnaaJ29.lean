import Derived.Test.YtkgbjpdoigdjnaaProg
import Derived.WalkKit
import Derived.WalkSpells
import Derived.WalkLawsBesides
import Derived.Deep.QuietTactic
import Derived.BigQuiet
import Derived.BigRegion
import Derived.KernelRfl
import Derived.LoopN
import Derived.Laws.BitsAllLaws
import Derived.Test.YtkgbjpdoigdjnaaJ04
import Derived.Deep.RegionHeld3
import Derived.Below
import Derived.Test.YtkgbjpdoigdjnaaJ08
namespace Go.Proofs.Ytkgbjpdoigdjnaa
open Go.RowKit
set_option maxRecDepth 100000
set_option linter.unusedVariables false
set_option linter.unusedSimpArgs false

/-! ## The highest bit; the program's small functions of package bits -/
theorem ret2 {k1 k2 : IntKind} {a b c d : Int} (h1 : a = c) (h2 : b = d) : Ending.returned (.tuple #[.int k1 a, .int k2 b]) = .returned (.tuple #[.int k1 c, .int k2 d]) := by rw [h1, h2]
theorem hi31 (n : Nat) (h : n < 4294967296) : n / 2147483648 = (n.testBit 31).toNat := by
  have := Fl.tb n 31
  rw [show (2 : Nat) ^ 31 = 2147483648 from rfl] at this
  omega
theorem t31 (n : Nat) (h : n < 4294967296) : n.testBit 31 = decide (2147483648 ≤ n) := by
  have e := hi31 n h
  cases hb : n.testBit 31
  · rw [hb] at e; simp at e; exact (decide_eq_false (by omega)).symm
  · rw [hb] at e; simp at e; exact (decide_eq_true (by omega)).symm
theorem xor_lt {a b : Nat} (ha : a < 4294967296) (hb : b < 4294967296) : a ^^^ b < 4294967296 := Nat.xor_lt_two_pow (n := 32) ha hb
theorem and_lt {a b : Nat} (ha : a < 4294967296) : a &&& b < 4294967296 := Nat.lt_of_le_of_lt Nat.and_le_left ha
theorem or_lt {a b : Nat} (ha : a < 4294967296) (hb : b < 4294967296) : a ||| b < 4294967296 := Nat.or_lt_two_pow (n := 32) ha hb

theorem borrow_bits (a b d : Nat) (c : Int) (ha : a < 4294967296) (hb : b < 4294967296) (hd : d < 4294967296) (hc : 0 ≤ c ∧ c ≤ 1) (e : (d : Int) = ((a : Int) - b - c) % 4294967296) :
    ((((4294967295 ^^^ a) &&& b) ||| ((4294967295 ^^^ (a ^^^ b)) &&& d) : Nat) : Int) / 2147483648 = Fl.isF (decide ((a : Int) - b - c < 0)) 1 := by
  have hx := hi31 (((4294967295 ^^^ a) &&& b) ||| ((4294967295 ^^^ (a ^^^ b)) &&& d)) (or_lt (and_lt (xor_lt (by decide) ha)) (and_lt (xor_lt (by decide) (xor_lt ha hb))))
  rw [show (2147483648 : Int) = ((2147483648 : Nat) : Int) from rfl, ← Int.natCast_ediv, hx]
  simp only [Nat.testBit_or, Nat.testBit_and, Nat.testBit_xor, t31 a ha, t31 b hb, t31 d hd]
  rw [show (4294967295 : Nat).testBit 31 = true from by decide]
  unfold Fl.isF
  by_cases h1 : 2147483648 ≤ a <;> by_cases h2 : 2147483648 ≤ b <;> by_cases h3 : 2147483648 ≤ d <;> by_cases h4 : (a : Int) - b - c < 0 <;> simp [h1, h2, h3, h4] <;> omega
theorem over_add (a b v : Nat) (c : Int) (ha : a < 4294967296) (hb : b < 4294967296) (hv : v < 4294967296) (hc : 0 ≤ c ∧ c ≤ 1) (e : (v : Int) = ((a : Int) + b + c) % 4294967296) :
    ((((a ^^^ v) &&& (b ^^^ v)) : Nat) : Int) / 2147483648 = Fl.isF (Fl.pastB (Fl.sgn a + Fl.sgn b + c)) 1 := by
  have hx := hi31 ((a ^^^ v) &&& (b ^^^ v)) (and_lt (xor_lt ha hv))
  rw [show (2147483648 : Int) = ((2147483648 : Nat) : Int) from rfl, ← Int.natCast_ediv, hx]
  simp only [Nat.testBit_or, Nat.testBit_and, Nat.testBit_xor, t31 a ha, t31 b hb, t31 v hv]
  unfold Fl.isF Fl.pastB Fl.sgn
  by_cases h1 : 2147483648 ≤ a <;> by_cases h2 : 2147483648 ≤ b <;> by_cases h3 : 2147483648 ≤ v <;> simp [h1, h2, h3] <;> omega
theorem over_sub (a b v : Nat) (c : Int) (ha : a < 4294967296) (hb : b < 4294967296) (hv : v < 4294967296) (hc : 0 ≤ c ∧ c ≤ 1) (e : (v : Int) = ((a : Int) - b - c) % 4294967296) :
    ((((a ^^^ b) &&& (a ^^^ v)) : Nat) : Int) / 2147483648 = Fl.isF (Fl.pastB (Fl.sgn a - Fl.sgn b - c)) 1 := by
  have hx := hi31 ((a ^^^ b) &&& (a ^^^ v)) (and_lt (xor_lt ha hb))
  rw [show (2147483648 : Int) = ((2147483648 : Nat) : Int) from rfl, ← Int.natCast_ediv, hx]
  simp only [Nat.testBit_or, Nat.testBit_and, Nat.testBit_xor, t31 a ha, t31 b hb, t31 v hv]
  unfold Fl.isF Fl.pastB Fl.sgn
  by_cases h1 : 2147483648 ≤ a <;> by_cases h2 : 2147483648 ≤ b <;> by_cases h3 : 2147483648 ≤ v <;> simp [h1, h2, h3] <;> omega

/-! ## Turned bits -/
theorem rot_arith (P R a h l1 l0 y : Nat) (hPR : P * R = 2147483648) (ha : a = (h * P + l1) * R + l0) (h0 : l0 < R) (hh : h ≤ 1) (hy : y = l1 * (2 * R) + (2 * l0 + h)) :
    y * P % 4294967296 + y / (2 * R) = a * (2 * P) % 4294967296 + a / R := by
  have hR : 0 < R := by omega
  have hP : 0 < P := Nat.pos_of_ne_zero fun e => by rw [e] at hPR; omega
  have e1 : y / (2 * R) = l1 := by
    rw [hy, Nat.add_comm, Nat.add_mul_div_right _ _ (by omega), Nat.div_eq_of_lt (by omega), Nat.zero_add]
  have e2 : a / R = h * P + l1 := by
    rw [ha, Nat.add_comm, Nat.add_mul_div_right _ _ hR, Nat.div_eq_of_lt h0, Nat.zero_add]
  have e3 : y * P = (2 * l0 + h) * P + l1 * 4294967296 := by
    have : l1 * (2 * R) * P = l1 * (2 * (P * R)) := by rw [Nat.mul_assoc, Nat.mul_assoc 2 R P, Nat.mul_comm R P]
    rw [hy, Nat.add_mul, this, hPR]; omega
  have e4 : a * (2 * P) = 2 * P * l0 + (h * P + l1) * 4294967296 := by
    have : (h * P + l1) * R * (2 * P) = (h * P + l1) * (2 * (P * R)) := by rw [Nat.mul_assoc, Nat.mul_left_comm R 2 P, Nat.mul_comm R P]
    rw [ha, Nat.add_mul, this, hPR, Nat.mul_comm l0]; omega
  have l : (2 * l0 + h) * P < 4294967296 := by
    have : (2 * l0 + h + 1) * P ≤ (2 * R) * P := Nat.mul_le_mul_right _ (by omega)
    have e : (2 * R) * P = 4294967296 := by rw [Nat.mul_assoc, Nat.mul_comm R P, hPR]
    rw [e, Nat.add_mul] at this
    omega
  have l' : 2 * P * l0 < 4294967296 := by
    have e : 2 * P * l0 = 2 * l0 * P := by rw [Nat.mul_assoc, Nat.mul_assoc, Nat.mul_comm P l0]
    have : 2 * l0 * P ≤ (2 * l0 + h) * P := Nat.mul_le_mul_right _ (by omega)
    omega
  have e5 : (2 * l0 + h) * P = 2 * P * l0 + h * P := by rw [Nat.add_mul, Nat.mul_assoc, Nat.mul_assoc, Nat.mul_comm P l0]
  rw [e1, e2, e3, e4, Nat.add_mul_mod_self_right, Nat.add_mul_mod_self_right, Nat.mod_eq_of_lt l, Nat.mod_eq_of_lt l', e5]
  omega
theorem turN_eq : ∀ (n a : Nat), n ≤ 31 → a < 4294967296 → Fl.turN n (a : Int) = ((a * 2 ^ n % 4294967296 + a / 2 ^ (32 - n) : Nat) : Int)
  | 0, a, _, ha => by
    rw [show a * 2 ^ 0 % 4294967296 + a / 2 ^ (32 - 0) = a from by rw [show (2 : Nat) ^ (32 - 0) = 4294967296 from rfl]; omega]; rfl
  | n + 1, a, hn, ha => by
    have ih := turN_eq n (a * 2 % 4294967296 + a / 2147483648) (by omega) (by omega)
    have e : Fl.turN (n + 1) (a : Int) = Fl.turN n ((a * 2 % 4294967296 + a / 2147483648 : Nat) : Int) := by
      show Fl.turN n (Fl.tur1 a) = _
      congr 1
      unfold Fl.tur1; omega
    rw [e, ih]
    congr 1
    have hPR : 2 ^ n * 2 ^ (31 - n) = 2147483648 := by rw [← Nat.pow_add, show n + (31 - n) = 31 by omega]
    have e2 : (2 : Nat) ^ (32 - n) = 2 * 2 ^ (31 - n) := by rw [show 32 - n = (31 - n) + 1 by omega, Nat.pow_succ, Nat.mul_comm]
    have e3 : (2 : Nat) ^ (n + 1) = 2 * 2 ^ n := by rw [Nat.pow_succ, Nat.mul_comm]
    rw [e2, e3, show 32 - (n + 1) = 31 - n by omega]
    have hR : 0 < 2 ^ (31 - n) := Nat.two_pow_pos _
    generalize 2 ^ n = P at *
    generalize 2 ^ (31 - n) = R at *
    have hd := Nat.div_add_mod (a % 2147483648) R
    refine rot_arith P R a (a / 2147483648) (a % 2147483648 / R) (a % 2147483648 % R) _ hPR ?_ (Nat.mod_lt _ hR) (by omega) ?_
    · rw [Nat.add_mul, Nat.mul_assoc, hPR, Nat.mul_comm (a % 2147483648 / R) R]; omega
    · rw [Nat.mul_left_comm, Nat.mul_comm (a % 2147483648 / R) R]; omega
theorem rot_or (n a : Nat) (hn : n ≤ 31) (ha : a < 4294967296) : ((a * 2 ^ n % 4294967296) ||| (a / 2 ^ (32 - n)) : Nat) = a * 2 ^ n % 4294967296 + a / 2 ^ (32 - n) := by
  refine Go.nat_join n _ _ ?_ ?_
  · have h : (2 : Nat) ^ n ∣ 4294967296 := ⟨2 ^ (32 - n), by rw [← Nat.pow_add]; rw [show n + (32 - n) = 32 by omega]⟩
    rw [Nat.mod_mod_of_dvd _ h]; exact Nat.mul_mod_left _ _
  · rw [Nat.div_lt_iff_lt_mul (Nat.two_pow_pos _), ← Nat.pow_add, show n + (32 - n) = 32 by omega]; exact ha

set_option maxHeartbeats 1000000 in
theorem add32 (a b c : Nat) (w : World) (ha : a < 4294967296) (hb : b < 4294967296) (hc : c ≤ 1) :
    Calls Try.prog 160 #[.int .u32 a, .int .u32 b, .int .u32 c] w fun e w' => e = .returned (.tuple #[.int .u32 (((a : Int) + b + c) % 4294967296), .int .u32 (((a : Int) + b + c) / 4294967296)]) ∧ w = w' := by
  go_enter Try.func160, Try.ntmps160
  go_wp2
  go_ret2
  exact ⟨rfl, rfl⟩
theorem or_small : ∀ c p q : Fin 2, bits .or .u32 (bits .or .u32 ((c.val : Int) * 4) ((p.val : Int) * 8)) ((q.val : Int) * 2) = (c.val : Int) * 4 + p.val * 8 + q.val * 2 ∧ bits .or .u32 (bits .or .u32 (bits .or .u32 ((c.val : Int) * 4) ((p.val : Int) * 8)) ((q.val : Int) * 2)) 1 = (c.val : Int) * 4 + p.val * 8 + q.val * 2 + 1 := by decide +kernel
set_option maxHeartbeats 1000000 in
theorem flagsOf_any (v c p : Nat) (w : World) (ha : v < 4294967296) (hb : c ≤ 1) (hc : p ≤ 1) :
    Calls Try.prog 159 #[.int .u32 v, .int .u32 c, .int .u32 p] w fun e w' => e = .returned (.int .u32 (Fl.valF v + c * 4 + p * 8)) ∧ w = w' := by
  have o := or_small ⟨c, by omega⟩ ⟨p, by omega⟩ ⟨v / 2147483648, by omega⟩
  have oe : (((v / 2147483648 : Nat)) : Int) = (v : Int) / 2147483648 := by omega
  simp only [oe] at o
  have HO : Hid _ := o
  clear o oe
  by_cases hv : v = 0
  · have hz : ((v : Int) == 0) = true := by simp [hv]
    have HV : Hid (v = 0) := hv
    clear hv
    go_enter Try.func159, Try.ntmps159
    go_wp2
    go_ret
    refine ⟨Fl.ret_int (HO.out.2.trans ?_), rfl⟩
    unfold Fl.valF Fl.isF
    rw [hz]
    simp [HV.out]; omega
  · have hz : ((v : Int) == 0) = false := by simp [hv]
    clear hv
    go_enter Try.func159, Try.ntmps159
    go_wp2
    go_ret
    refine ⟨Fl.ret_int (HO.out.1.trans ?_), rfl⟩
    unfold Fl.valF Fl.isF
    rw [hz]
    by_cases h : 2147483648 ≤ (v : Int)
    · simp [h]; omega
    · simp [h]; omega
set_option maxHeartbeats 1000000 in
theorem sub32 (a b c d : Nat) (w : World) (hd : (d : Int) = ((a : Int) - b - c) % 4294967296) (ha : a < 4294967296) (hb : b < 4294967296) (hc : c ≤ 1) :
    Calls Try.prog 161 #[.int .u32 a, .int .u32 b, .int .u32 c] w fun e w' => e = .returned (.tuple #[.int .u32 d, .int .u32 (Fl.isF (decide ((a : Int) - b - c < 0)) 1)]) ∧ w = w' := by
  have hdl : d < 4294967296 := by omega
  have HD : Hid _ := hd
  clear hd
  go_enter Try.func161, Try.ntmps161
  go_wp2
  go_ret2
  refine ⟨ret2 HD.out.symm ?_, rfl⟩
  rw [← borrow_bits a b d c ha hb hdl (by omega) HD.out, ← HD.out]
  rw [show IntKind.u32.max = ((4294967295 : Nat) : Int) from rfl, Go.u32_xor_nat _ _ (by decide) ha, Go.u32_xor_nat _ _ ha hb, Go.u32_xor_nat _ _ (by decide) (xor_lt ha hb), Go.u32_and_nat _ _ (xor_lt (by decide) ha) hb, Go.u32_and_nat _ _ (xor_lt (by decide) (xor_lt ha hb)) hdl, Go.u32_or_nat _ _ (and_lt (xor_lt (by decide) ha)) (and_lt (xor_lt (by decide) (xor_lt ha hb)))]
set_option maxHeartbeats 1000000 in
theorem mul32 (a b : Nat) (w : World) (ha : a < 4294967296) (hb : b < 4294967296) :
    Calls Try.prog 162 #[.int .u32 a, .int .u32 b] w fun e w' => e = .returned (.tuple #[.int .u32 ((a * b / 4294967296 : Nat) : Int), .int .u32 ((a * b % 4294967296 : Nat) : Int)]) ∧ w = w' := by
  have hm : a * b < 4294967296 * 4294967296 := Nat.mul_lt_mul'' ha hb
  have hw : IntKind.u64.wrap ((a : Int) * b) = ((a * b : Nat) : Int) := by
    rw [show IntKind.u64.wrap ((a : Int) * b) = ((a : Int) * b) % 18446744073709551616 from by simp [IntKind.wrap, IntKind.bits, IntKind.signed]]
    rw [← Int.natCast_mul]
    omega
  have hq : ((a * b : Nat) : Int) / 4294967296 % 4294967296 = ((a * b : Nat) : Int) / 4294967296 := by omega
  go_enter Try.func162, Try.ntmps162
  go_wp2
  go_ret2
  refine ⟨ret2 ?_ ?_, rfl⟩
  · rw [Int.natCast_ediv, Int.natCast_mul]; first | rfl | omega
  · rw [Int.natCast_emod, Int.natCast_mul]; first | rfl | omega
set_option maxHeartbeats 1000000 in
theorem rot32 (a : Nat) (n : Nat) (w : World) (ha : a < 4294967296) (hn : n < 32) :
    Calls Try.prog 158 #[.int .u32 a, .int .i64 n] w fun e w' => e = .returned (.int .u32 (Fl.turN n a)) ∧ w = w' := by
  have hb : bits .and .u64 (n : Int) 31 = (n : Int) := by
    rw [show (31 : Int) = ((31 : Nat) : Int) from rfl, Go.u64_and_nat _ _ (by omega) (by decide), Go.nat_mask5]; omega
  have h1 : (0 : Int) ≤ n := by omega
  have h2 : (0 : Int) ≤ 32 - n := by omega
  go_enter Try.func158, Try.ntmps158
  go_wp2
  go_ret
  refine ⟨Fl.ret_int ?_, rfl⟩
  rw [turN_eq n a (by omega) ha, ← rot_or n a (by omega) ha]
  have e1 : (a : Int) * 2 ^ n % 4294967296 = ((a * 2 ^ n % 4294967296 : Nat) : Int) := by rw [Int.natCast_emod, Int.natCast_mul, Int.natCast_pow]; rfl
  have e2 : (a : Int) / 2 ^ (32 - n) = ((a / 2 ^ (32 - n) : Nat) : Int) := by rw [Int.natCast_ediv, Int.natCast_pow]; rfl
  rw [e1, e2]
  exact Go.u32_or_nat _ _ (by omega) (Nat.lt_of_le_of_lt (Nat.div_le_self _ _) ha)
end Go.Proofs.Ytkgbjpdoigdjnaa

namespace Go.Proofs.Ytkgbjpdoigdjnaa
open Go.RowKit
set_option maxRecDepth 100000
set_option linter.unusedVariables false
set_option linter.unusedSimpArgs false

/-! ## Sums, differences, products -/
theorem add32_me (a b c v o : Nat) (w : World) (hv : (v : Int) = ((a : Int) + b + c) % 4294967296) (ho : (o : Int) = ((a : Int) + b + c) / 4294967296) (ha : a < 4294967296) (hb : b < 4294967296) (hc : c ≤ 1) :
    Calls Try.prog 160 #[.int .u32 a, .int .u32 b, .int .u32 c] w fun e w' => e = .returned (.tuple #[.int .u32 v, .int .u32 o]) ∧ w = w' := by
  rw [hv, ho]; exact add32 a b c w ha hb hc
theorem sub32_me (a b c v o : Nat) (w : World) (hv : (v : Int) = ((a : Int) - b - c) % 4294967296) (ho : (o : Int) = Fl.isF (decide ((a : Int) - b - c < 0)) 1) (ha : a < 4294967296) (hb : b < 4294967296) (hc : c ≤ 1) :
    Calls Try.prog 161 #[.int .u32 a, .int .u32 b, .int .u32 c] w fun e w' => e = .returned (.tuple #[.int .u32 v, .int .u32 o]) ∧ w = w' := by
  rw [ho]; exact sub32 a b c v w hv ha hb hc
theorem isF_one (b : Bool) (k : Int) : Fl.isF b 1 * k = Fl.isF b k := by unfold Fl.isF; cases b <;> simp
theorem isF_nat (b : Bool) : ∃ p : Nat, (p : Int) = Fl.isF b 1 ∧ p ≤ 1 := by
  refine ⟨(Fl.isF b 1).toNat, ?_, ?_⟩ <;> have := Fl.isF_bd b 1 (by omega) <;> omega
set_option maxHeartbeats 2000000 in
theorem reckoned1 (a b c : Nat) (w : World) (ha : a < 4294967296) (hb : b < 4294967296) (hc : c ≤ 1) :
    Calls Try.prog 129 #[.int .u8 1, .int .u32 a, .int .u32 b, .int .u32 c] w fun e w' => e = .returned (.tuple #[.int .u32 (((a : Int) + b + c) % 4294967296), .int .u32 (Fl.addF a b c)]) ∧ w = w' := by
  obtain ⟨v, hv⟩ : ∃ v : Nat, (v : Int) = ((a : Int) + b + c) % 4294967296 := ⟨(((a : Int) + b + c) % 4294967296).toNat, by omega⟩
  obtain ⟨o, ho⟩ : ∃ o : Nat, (o : Int) = ((a : Int) + b + c) / 4294967296 := ⟨(((a : Int) + b + c) / 4294967296).toNat, by omega⟩
  obtain ⟨p, hp, hpl⟩ := isF_nat (Fl.pastB (Fl.sgn a + Fl.sgn b + c))
  have hvl : v < 4294967296 := by omega
  have hol : o ≤ 1 := by omega
  have h4 := (over_add a b v c ha hb hvl (by omega) hv).trans hp.symm
  have h1 : bits .xor .u32 (a : Int) v = ((a ^^^ v : Nat) : Int) := Go.u32_xor_nat _ _ ha hvl
  have h2 : bits .xor .u32 (b : Int) v = ((b ^^^ v : Nat) : Int) := Go.u32_xor_nat _ _ hb hvl
  have h3 : bits .and .u32 ((a ^^^ v : Nat) : Int) ((b ^^^ v : Nat) : Int) = (((a ^^^ v) &&& (b ^^^ v) : Nat) : Int) := Go.u32_and_nat _ _ (xor_lt ha hvl) (xor_lt hb hvl)
  have k1 := xor_lt ha hvl
  have k2 := xor_lt hb hvl
  have k3 : (a ^^^ v) &&& (b ^^^ v) < 4294967296 := and_lt k1
  generalize a ^^^ v = x1 at *
  generalize b ^^^ v = x2 at *
  generalize x1 &&& x2 = x3 at *
  have HE : Hid (Fl.valF v + o * 4 + p * 8 = Fl.addF a b c) := by
    rw [hv, hp, isF_one]
    unfold Fl.addF
    have : (o : Int) = Fl.isF (decide (4294967296 ≤ (a : Int) + b + c)) 1 := by
      unfold Fl.isF
      by_cases h : 4294967296 ≤ (a : Int) + b + c <;> simp [h] <;> omega
    rw [this, isF_one]
    rfl
  have HV : Hid _ := hv
  have HO : Hid _ := ho
  have HP : Hid _ := hp
  clear hv ho hp
  go_enter Try.func129, Try.ntmps129
  go_wp2_with (first
    | (go_at_call 160; refine (add32_me a b c v o _ HV.out HO.out ha hb hc).mono ?_; rintro e w1 ⟨rfl, rfl⟩)
    | (go_at_call 159; refine (flagsOf_any v o p _ hvl hol hpl).mono ?_; rintro e w1 ⟨rfl, rfl⟩))
  go_ret2
  exact ⟨ret2 HV.out HE.out, rfl⟩
set_option maxHeartbeats 2000000 in
theorem reckoned2 (a b c : Nat) (w : World) (ha : a < 4294967296) (hb : b < 4294967296) (hc : c ≤ 1) :
    Calls Try.prog 129 #[.int .u8 2, .int .u32 a, .int .u32 b, .int .u32 c] w fun e w' => e = .returned (.tuple #[.int .u32 (((a : Int) - b - c) % 4294967296), .int .u32 (Fl.subF a b c)]) ∧ w = w' := by
  obtain ⟨v, hv⟩ : ∃ v : Nat, (v : Int) = ((a : Int) - b - c) % 4294967296 := ⟨(((a : Int) - b - c) % 4294967296).toNat, by omega⟩
  obtain ⟨o, ho, hol⟩ := isF_nat (decide ((a : Int) - b - c < 0))
  obtain ⟨p, hp, hpl⟩ := isF_nat (Fl.pastB (Fl.sgn a - Fl.sgn b - c))
  have hvl : v < 4294967296 := by omega
  have h4 := (over_sub a b v c ha hb hvl (by omega) hv).trans hp.symm
  have h1 : bits .xor .u32 (a : Int) b = ((a ^^^ b : Nat) : Int) := Go.u32_xor_nat _ _ ha hb
  have h2 : bits .xor .u32 (a : Int) v = ((a ^^^ v : Nat) : Int) := Go.u32_xor_nat _ _ ha hvl
  have h3 : bits .and .u32 ((a ^^^ b : Nat) : Int) ((a ^^^ v : Nat) : Int) = (((a ^^^ b) &&& (a ^^^ v) : Nat) : Int) := Go.u32_and_nat _ _ (xor_lt ha hb) (xor_lt ha hvl)
  have k1 := xor_lt ha hb
  have k2 := xor_lt ha hvl
  have k3 : (a ^^^ b) &&& (a ^^^ v) < 4294967296 := and_lt k1
  generalize a ^^^ b = x1 at *
  generalize a ^^^ v = x2 at *
  generalize x1 &&& x2 = x3 at *
  have HE : Hid (Fl.valF v + o * 4 + p * 8 = Fl.subF a b c) := by
    rw [hv, hp, ho, isF_one, isF_one]
    rfl
  have HV : Hid _ := hv
  have HO : Hid _ := ho
  have HP : Hid _ := hp
  clear hv ho hp
  go_enter Try.func129, Try.ntmps129
  go_wp2_with (first
    | (go_at_call 161; refine (sub32_me a b c v o _ HV.out HO.out ha hb hc).mono ?_; rintro e w1 ⟨rfl, rfl⟩)
    | (go_at_call 159; refine (flagsOf_any v o p _ hvl hol hpl).mono ?_; rintro e w1 ⟨rfl, rfl⟩))
  go_ret2
  exact ⟨ret2 HV.out HE.out, rfl⟩
set_option maxHeartbeats 2000000 in
theorem reckoned3 (a b c : Nat) (w : World) (ha : a < 4294967296) (hb : b < 4294967296) :
    Calls Try.prog 129 #[.int .u8 3, .int .u32 a, .int .u32 b, .int .u32 c] w fun e w' => e = .returned (.tuple #[.int .u32 a, .int .u32 (Fl.valF a)]) ∧ w = w' := by
  go_enter Try.func129, Try.ntmps129
  go_wp2_with (go_at_call 159; refine (flagsOf_any a 0 0 _ ha (by omega) (by omega)).mono ?_; rintro e w1 ⟨rfl, rfl⟩)
  go_ret2
  exact ⟨ret2 rfl (by simp), rfl⟩
end Go.Proofs.Ytkgbjpdoigdjnaa

namespace Go.Proofs.Ytkgbjpdoigdjnaa
open Go.RowKit
set_option maxRecDepth 100000
set_option linter.unusedVariables false
set_option linter.unusedSimpArgs false

set_option maxHeartbeats 1000000 in
theorem reckoned4a (a b c h l : Nat) (w : World) (hh : a * b / 4294967296 = h) (hl : a * b % 4294967296 = l) (ha : a < 4294967296) (hb : b < 4294967296) (hq : 1 < h) :
    Calls Try.prog 129 #[.int .u8 4, .int .u32 a, .int .u32 b, .int .u32 c] w fun e w' => e = .returned (.tuple #[.int .u32 l, .int .u32 (Fl.mulF a b)]) ∧ w = w' := by
  have hll : l < 4294967296 := by omega
  have hhl : h < 4294967296 := by
    have hm : a * b < 4294967296 * 4294967296 := Nat.mul_lt_mul'' ha hb
    omega
  have hqi : (1 : Int) < h := by omega
  have HE : Hid (Fl.valF l + (1 : Nat) * 4 + (1 : Nat) * 8 = Fl.mulF a b) := by
    have hg : 4294967296 ≤ a * b ↔ 1 ≤ h := by omega
    unfold Fl.mulF
    rw [hl]
    unfold Fl.isF
    by_cases hc : 4294967296 ≤ a * b
    · have h1 := hg.mp hc
      have e1 : (((1 : Nat)) : Int) = 1 := by omega
      rw [e1, if_pos (decide_eq_true hc)]; exact (fun V : Int => (by omega : V + 1 * 4 + 1 * 8 = V + 12)) _
    · have h1 : ¬ 1 ≤ h := fun x => hc (hg.mpr x)
      exfalso; omega
  have HC : Hid (∀ w, Calls Try.prog 162 #[.int .u32 a, .int .u32 b] w fun e w' => e = .returned (.tuple #[.int .u32 h, .int .u32 l]) ∧ w = w') := fun w => by
    have := mul32 a b w ha hb
    rw [hh, hl] at this
    exact this
  clear hh hl
  go_enter Try.func129, Try.ntmps129
  go_wp2_with (first
    | (go_at_call 162; refine (HC.out _).mono ?_; rintro e w1 ⟨rfl, rfl⟩)
    | (go_at_call 159; refine (flagsOf_any l 1 1 _ hll (Nat.le_refl 1) (Nat.le_refl 1)).mono ?_; rintro e w1 ⟨rfl, rfl⟩))
  go_ret2
  exact ⟨ret2 rfl HE.out, rfl⟩
set_option maxHeartbeats 1000000 in
theorem reckoned4b (a b c h l : Nat) (w : World) (hh : a * b / 4294967296 = h) (hl : a * b % 4294967296 = l) (ha : a < 4294967296) (hb : b < 4294967296) (hq : h ≤ 1) :
    Calls Try.prog 129 #[.int .u8 4, .int .u32 a, .int .u32 b, .int .u32 c] w fun e w' => e = .returned (.tuple #[.int .u32 l, .int .u32 (Fl.mulF a b)]) ∧ w = w' := by
  have hll : l < 4294967296 := by omega
  have hhl : h < 4294967296 := by
    have hm : a * b < 4294967296 * 4294967296 := Nat.mul_lt_mul'' ha hb
    omega
  have hqi : ¬ (1 : Int) < h := by omega
  have HE : Hid (Fl.valF l + (h : Nat) * 4 + (h : Nat) * 8 = Fl.mulF a b) := by
    have hg : 4294967296 ≤ a * b ↔ 1 ≤ h := by omega
    unfold Fl.mulF
    rw [hl]
    unfold Fl.isF
    by_cases hc : 4294967296 ≤ a * b
    · have h1 := hg.mp hc
      have e1 : (((h : Nat)) : Int) = 1 := by omega
      rw [e1, if_pos (decide_eq_true hc)]; exact (fun V : Int => (by omega : V + 1 * 4 + 1 * 8 = V + 12)) _
    · have h1 : ¬ 1 ≤ h := fun x => hc (hg.mpr x)
      have e1 : (((h : Nat)) : Int) = 0 := by omega
      rw [e1, if_neg (by simp [hc])]; exact (fun V : Int => (by omega : V + 0 * 4 + 0 * 8 = V + 0)) _
  have HC : Hid (∀ w, Calls Try.prog 162 #[.int .u32 a, .int .u32 b] w fun e w' => e = .returned (.tuple #[.int .u32 h, .int .u32 l]) ∧ w = w') := fun w => by
    have := mul32 a b w ha hb
    rw [hh, hl] at this
    exact this
  clear hh hl
  go_enter Try.func129, Try.ntmps129
  go_wp2_with (first
    | (go_at_call 162; refine (HC.out _).mono ?_; rintro e w1 ⟨rfl, rfl⟩)
    | (go_at_call 159; refine (flagsOf_any l h h _ hll hq hq).mono ?_; rintro e w1 ⟨rfl, rfl⟩))
  go_ret2
  exact ⟨ret2 rfl HE.out, rfl⟩
theorem reckoned4 (a b c : Nat) (w : World) (ha : a < 4294967296) (hb : b < 4294967296) :
    Calls Try.prog 129 #[.int .u8 4, .int .u32 a, .int .u32 b, .int .u32 c] w fun e w' => e = .returned (.tuple #[.int .u32 ((a * b % 4294967296 : Nat) : Int), .int .u32 (Fl.mulF a b)]) ∧ w = w' := by
  by_cases h : 1 < a * b / 4294967296
  · exact reckoned4a a b c _ _ w rfl rfl ha hb h
  · exact reckoned4b a b c _ _ w rfl rfl ha hb (by omega)
end Go.Proofs.Ytkgbjpdoigdjnaa

namespace Go.Proofs.Ytkgbjpdoigdjnaa
open Go.RowKit
set_option maxRecDepth 100000
set_option linter.unusedVariables false
set_option linter.unusedSimpArgs false

/-! ## Moved bits -/
theorem flagsOf_i (v c p : Int) (w : World) (hv0 : 0 ≤ v) (hv : v < 4294967296) (hc0 : 0 ≤ c) (hc : c ≤ 1) (hp0 : 0 ≤ p) (hp : p ≤ 1) :
    Calls Try.prog 159 #[.int .u32 v, .int .u32 c, .int .u32 p] w fun e w' => e = .returned (.int .u32 (Fl.valF v + c * 4 + p * 8)) ∧ w = w' := by
  have := flagsOf_any v.toNat c.toNat p.toNat w (by omega) (by omega) (by omega)
  rw [Int.toNat_of_nonneg hv0, Int.toNat_of_nonneg hc0, Int.toNat_of_nonneg hp0] at this
  exact this
set_option maxHeartbeats 1000000 in
theorem moved_none (k : Int) (a old : Nat) (w : World) :
    Calls Try.prog 128 #[.int .u8 k, .int .u32 a, .int .i64 0, .int .u32 old] w fun e w' => e = .returned (.tuple #[.int .u32 a, .int .u32 old]) ∧ w = w' := by
  go_enter Try.func128, Try.ntmps128
  go_wp2
  go_ret2
  exact ⟨rfl, rfl⟩
theorem rot32_me (a n t : Nat) (w : World) (ht : Fl.turN n a = t) (ha : a < 4294967296) (hn : n < 32) :
    Calls Try.prog 158 #[.int .u32 a, .int .i64 n] w fun e w' => e = .returned (.int .u32 t) ∧ w = w' := by
  have := rot32 a n w ha hn
  rw [ht] at this; exact this

theorem isF_mod (x : Int) : x % 2 * 4 = Fl.isF (x % 2 == 1) 4 := by
  unfold Fl.isF
  by_cases h : x % 2 = 1
  · simp [h]
  · have : x % 2 = 0 := by omega
    simp [this]
theorem pow_split (n : Nat) (hn : n ≤ 32) : 2 ^ n * 2 ^ (32 - n) = 4294967296 := by rw [← Nat.pow_add, show n + (32 - n) = 32 by omega]
/-- What goes out on the left. -/
theorem tur_low (a n : Nat) (ha : a < 4294967296) (h0 : 0 < n) (hn : n < 32) : Fl.turN n a % 2 = ((a * 2 ^ n / 4294967296 % 2 : Nat) : Int) := by
  rw [turN_eq n a (by omega) ha]
  have e1 : a * 2 ^ n / 4294967296 = a / 2 ^ (32 - n) := by
    have := pow_split n (by omega)
    rw [← this, Nat.mul_comm (2 ^ n) (2 ^ (32 - n)), Nat.mul_div_mul_right _ _ (Nat.two_pow_pos n)]
  have e2 : a * 2 ^ n % 4294967296 % 2 = 0 := by
    have : a * 2 ^ n = a * 2 ^ (n - 1) * 2 := by rw [Nat.mul_assoc, ← Nat.pow_succ, show (n - 1).succ = n by omega]
    omega
  rw [e1]
  generalize a / 2 ^ (32 - n) = q at *
  generalize a * 2 ^ n % 4294967296 = r at *
  omega
theorem wrap_u32n (x : Nat) : IntKind.u32.wrap (x : Int) = ((x % 4294967296 : Nat) : Int) := by
  rw [Go.IntKind.wrap_u32']; omega
theorem shl_cast (a n : Nat) : (a : Int) * 2 ^ n = ((a * 2 ^ n : Nat) : Int) := by rw [Int.natCast_mul, Int.natCast_pow]; rfl
theorem shr_cast (a n : Nat) : (a : Int) / 2 ^ n = ((a / 2 ^ n : Nat) : Int) := by rw [Int.natCast_ediv, Int.natCast_pow]; rfl
theorem and1 (x : Nat) (hx : x < 4294967296) : bits .and .u32 (x : Int) 1 = (x : Int) % 2 := by
  rw [show (1 : Int) = ((1 : Nat) : Int) from rfl, Go.u32_and_nat _ _ hx (by decide), Go.nat_mask1]; omega
theorem below_drew2 (w : World) : Below w.heap.size w w.drew.drew := (Below.refl _ _).drew.drew
theorem below_drew (w : World) : Below w.heap.size w w.drew := (Below.refl _ _).drew
set_option maxHeartbeats 1000000 in
theorem moved5 (a n old t : Nat) (w : World) (ht : Fl.turN n a = t) (ha : a < 4294967296) (h0 : 0 < n) (hn : n < 32) :
    Calls Try.prog 128 #[.int .u8 5, .int .u32 a, .int .i64 n, .int .u32 old] w fun e w' => e = .returned (.tuple #[.int .u32 ((a * 2 ^ n % 4294967296 : Nat) : Int), .int .u32 (Fl.shlF a n)]) ∧ Below w.heap.size w w' := by
  have htl : t < 4294967296 := by have := Fl.turN_bd n a (by omega) (by omega); omega
  have hz : ((n : Int) == 0) = false := by simp; omega
  have h1 : (0 : Int) ≤ (n : Int) - 1 := by omega
  have h2 : (0 : Int) ≤ n := by omega
  have ht1 : bits .and .u32 (t : Int) 1 = (t : Int) % 2 := and1 t htl
  have hs : IntKind.u32.wrap ((a : Int) * 2 ^ n) = ((a * 2 ^ n % 4294967296 : Nat) : Int) := by rw [shl_cast, wrap_u32n]
  have hs0 : 0 ≤ IntKind.u32.wrap ((a : Int) * 2 ^ n) := by rw [hs]; omega
  have hs1 : IntKind.u32.wrap ((a : Int) * 2 ^ n) < 4294967296 := by rw [hs]; omega
  have HS : Hid _ := hs
  have HS0 : Hid _ := hs0
  have HS1 : Hid _ := hs1
  clear hs hs0 hs1
  have he : Fl.valF (IntKind.u32.wrap ((a : Int) * 2 ^ n)) + (t : Int) % 2 * 4 = Fl.shlF a n := by
    rw [HS.out, ← ht, tur_low a n ha h0 hn]
    unfold Fl.shlF
    have := isF_mod ((a * 2 ^ n / 4294967296 : Nat) : Int)
    have e : ((a * 2 ^ n / 4294967296 % 2 : Nat) : Int) = ((a * 2 ^ n / 4294967296 : Nat) : Int) % 2 := by omega
    rw [e, this]
    have e2 : (((a * 2 ^ n / 4294967296 : Nat) : Int) % 2 == 1) = (a * 2 ^ n / 4294967296 % 2 == 1) := by
      generalize a * 2 ^ n / 4294967296 = q
      rw [Bool.eq_iff_iff]; simp; omega
    rw [e2]
  have HE : Hid _ := he
  have HT : Hid _ := ht
  clear ht he
  go_enter Try.func128, Try.ntmps128
  go_wp2_with (first
    | (go_at_call 158; refine (rot32_me a n t _ HT.out ha hn).mono ?_; rintro e w1 ⟨rfl, rfl⟩))
  go_region
  go_wp2
  go_region_with (go_at_call 159; refine (flagsOf_i _ _ 0 _ HS0.out HS1.out (by omega) (by omega) (by omega) (by omega)).mono ?_; rintro e w1 ⟨rfl, rfl⟩)
  all_goals go_wp2
  all_goals go_ret2
  all_goals exact ⟨ret2 HS.out HE.out, below_drew2 w⟩
set_option maxHeartbeats 1000000 in
theorem moved6 (a n old t : Nat) (w : World) (ht : Fl.turN n a = t) (ha : a < 4294967296) (h0 : 0 < n) (hn : n < 32) :
    Calls Try.prog 128 #[.int .u8 6, .int .u32 a, .int .i64 n, .int .u32 old] w fun e w' => e = .returned (.tuple #[.int .u32 ((a : Int) / 2 ^ n), .int .u32 (Fl.shrF a n)]) ∧ Below w.heap.size w w' := by
  have htl : t < 4294967296 := by have := Fl.turN_bd n a (by omega) (by omega); omega
  have hz : ((n : Int) == 0) = false := by simp; omega
  have h1 : (0 : Int) ≤ (n : Int) - 1 := by omega
  have h2 : (0 : Int) ≤ n := by omega
  have ht1 : bits .and .u32 (t : Int) 1 = (t : Int) % 2 := and1 t htl
  obtain ⟨q, hq⟩ : ∃ q : Nat, (a : Int) / 2 ^ (n - 1) = q := ⟨_, shr_cast a (n - 1)⟩
  have hql : q < 4294967296 := by have := (Fl.ediv_bd a (n - 1) (by omega)).2; rw [hq] at this; omega
  have hq1 : bits .and .u32 (q : Int) 1 = (q : Int) % 2 := and1 q hql
  have hs0 : 0 ≤ (a : Int) / 2 ^ n := (Fl.ediv_bd a n (by omega)).1
  have hs1 : (a : Int) / 2 ^ n < 4294967296 := Int.lt_of_le_of_lt (Fl.ediv_bd a n (by omega)).2 (by omega)
  have HS0 : Hid _ := hs0
  have HS1 : Hid _ := hs1
  clear hs0 hs1
  have he : Fl.valF ((a : Int) / 2 ^ n) + (q : Int) % 2 * 4 = Fl.shrF a n := by
    unfold Fl.shrF
    rw [hq, isF_mod]
  have HE : Hid _ := he
  have HT : Hid _ := ht
  clear ht he
  go_enter Try.func128, Try.ntmps128
  go_wp2_with (first
    | (go_at_call 158; refine (rot32_me a n t _ HT.out ha hn).mono ?_; rintro e w1 ⟨rfl, rfl⟩))
  go_region
  go_wp2
  go_region_with (go_at_call 159; refine (flagsOf_i _ _ 0 _ HS0.out HS1.out (by omega) (by omega) (by omega) (by omega)).mono ?_; rintro e w1 ⟨rfl, rfl⟩)
  all_goals go_wp2
  all_goals go_ret2
  all_goals exact ⟨ret2 rfl HE.out, below_drew2 w⟩
theorem sgn_low (a n : Nat) (hn : n < 32) : Fl.sgn a / 2 ^ n % 4294967296 % 2 = (a : Int) / 2 ^ n % 2 := by
  have e : ∀ x : Int, x % 4294967296 % 2 = x % 2 := fun x => by omega
  rw [e]
  unfold Fl.sgn
  split
  · have hp : (2 : Int) ^ (31 - n) * 2 * 2 ^ n = 4294967296 := by
      rw [← Int.pow_succ, ← Int.pow_add, show (31 - n).succ + n = 32 by omega]; rfl
    have : (a : Int) - 4294967296 = a + (-(2 ^ (31 - n) * 2)) * 2 ^ n := by rw [Int.neg_mul, hp]; rfl
    rw [this, Int.add_mul_ediv_right _ _ (Int.ne_of_gt (Int.pow_pos (by decide)))]
    generalize (2 : Int) ^ (31 - n) = z
    omega
  · rfl
theorem wrap32_sgn (a : Nat) (ha : a < 4294967296) : wrap32 (a : Int) = Fl.sgn a := by
  unfold Fl.sgn
  split
  · rw [show wrap32 (a : Int) = (a : Int) - 4294967296 from by simp [wrap32, IntKind.wrap, IntKind.bits, IntKind.signed]; omega]
  · rw [show wrap32 (a : Int) = (a : Int) from by simp [wrap32, IntKind.wrap, IntKind.bits, IntKind.signed]; omega]
set_option maxHeartbeats 1000000 in
theorem moved7 (a n old t : Nat) (w : World) (ht : Fl.turN n a = t) (ha : a < 4294967296) (h0 : 0 < n) (hn : n < 32) :
    Calls Try.prog 128 #[.int .u8 7, .int .u32 a, .int .i64 n, .int .u32 old] w fun e w' => e = .returned (.tuple #[.int .u32 (Fl.sgn a / 2 ^ n % 4294967296), .int .u32 (Fl.sarF a n)]) ∧ Below w.heap.size w w' := by
  have htl : t < 4294967296 := by have := Fl.turN_bd n a (by omega) (by omega); omega
  have hz : ((n : Int) == 0) = false := by simp; omega
  have h1 : (0 : Int) ≤ (n : Int) - 1 := by omega
  have h2 : (0 : Int) ≤ n := by omega
  have ht1 : bits .and .u32 (t : Int) 1 = (t : Int) % 2 := and1 t htl
  obtain ⟨q, hq⟩ : ∃ q : Nat, (a : Int) / 2 ^ (n - 1) = q := ⟨_, shr_cast a (n - 1)⟩
  have hql : q < 4294967296 := by have := (Fl.ediv_bd a (n - 1) (by omega)).2; rw [hq] at this; omega
  have hq1 : bits .and .u32 (q : Int) 1 = (q : Int) % 2 := and1 q hql
  have hw : wrap32 (a : Int) = Fl.sgn a := wrap32_sgn a ha
  have he : Fl.valF (Fl.sgn a / 2 ^ n % 4294967296) + (q : Int) % 2 * 4 = Fl.sarF a n := by
    unfold Fl.sarF
    rw [sgn_low a (n - 1) (by omega), hq, isF_mod, Int.ediv_ediv_of_nonneg (Int.le_of_lt (Int.pow_pos (by decide))), ← Int.pow_succ, show (n - 1).succ = n by omega]
  have hs0 : 0 ≤ Fl.sgn a / 2 ^ n % 4294967296 := Int.emod_nonneg _ (by decide)
  have hs1 : Fl.sgn a / 2 ^ n % 4294967296 < 4294967296 := Int.emod_lt_of_pos _ (by decide)
  have HS0 : Hid _ := hs0
  have HS1 : Hid _ := hs1
  clear hs0 hs1
  have HE : Hid _ := he
  have HT : Hid _ := ht
  clear ht he
  go_enter Try.func128, Try.ntmps128
  go_wp2_with (first
    | (go_at_call 158; refine (rot32_me a n t _ HT.out ha hn).mono ?_; rintro e w1 ⟨rfl, rfl⟩))
  go_region
  go_wp2_with (go_at_call 159; refine (flagsOf_i _ _ 0 _ HS0.out HS1.out (by omega) (by omega) (by omega) (by omega)).mono ?_; rintro e w1 ⟨rfl, rfl⟩)
  go_ret2
  exact ⟨ret2 rfl HE.out, below_drew w⟩
theorem or_old : ∀ o : Fin 16, ∀ l : Fin 2, bits .or .u32 (bits .andNot .u32 (o.val : Int) 4) ((l.val : Int) * 4) = (o.val : Int) - (((o.val / 4 % 2 : Nat)) : Int) * 4 + (l.val : Int) * 4 := by decide +kernel
set_option maxHeartbeats 1000000 in
theorem moved8 (a n old t : Nat) (w : World) (ht : Fl.turN n a = t) (ha : a < 4294967296) (h0 : 0 < n) (hn : n < 32) (ho : old < 16) :
    Calls Try.prog 128 #[.int .u8 8, .int .u32 a, .int .i64 n, .int .u32 old] w fun e w' => e = .returned (.tuple #[.int .u32 t, .int .u32 (Fl.rolF a n old)]) ∧ Below w.heap.size w w' := by
  have htl : t < 4294967296 := by have := Fl.turN_bd n a (by omega) (by omega); omega
  have hz : ((n : Int) == 0) = false := by simp; omega
  have h1 : (0 : Int) ≤ (n : Int) - 1 := by omega
  have h2 : (0 : Int) ≤ n := by omega
  have ht1 : bits .and .u32 (t : Int) 1 = (t : Int) % 2 := and1 t htl
  have he : bits .or .u32 (bits .andNot .u32 (old : Int) 4) ((t : Int) % 2 * 4) = Fl.rolF a n old := by
    have := or_old ⟨old, ho⟩ ⟨t % 2, by omega⟩
    have e : (((t % 2 : Nat)) : Int) = (t : Int) % 2 := by omega
    simp only [e] at this
    rw [this]
    unfold Fl.rolF
    rw [ht, isF_mod]
    unfold Fl.carF
    rw [Nat.mod_eq_of_lt ho]
  have HE : Hid _ := he
  have HT : Hid _ := ht
  clear ht he
  go_enter Try.func128, Try.ntmps128
  go_wp2_with (first
    | (go_at_call 158; refine (rot32_me a n t _ HT.out ha hn).mono ?_; rintro e w1 ⟨rfl, rfl⟩))
  go_region
  go_wp2
  go_ret2
  exact ⟨ret2 rfl HE.out, below_drew w⟩
end Go.Proofs.Ytkgbjpdoigdjnaa

namespace Go.Proofs.Ytkgbjpdoigdjnaa
open Go.RowKit
set_option maxRecDepth 100000
set_option linter.unusedVariables false
set_option linter.unusedSimpArgs false

theorem and15 (x : Nat) (hx : x < 4294967296) : bits .and .u32 (x : Int) 15 = ((x % 16 : Nat) : Int) := by
  rw [show (15 : Int) = ((15 : Nat) : Int) from rfl, Go.u32_and_nat _ _ hx (by decide), Go.nat_mask4]
theorem and31 (x : Nat) (hx : x < 4294967296) : bits .and .u32 (x : Int) 31 = ((x % 32 : Nat) : Int) := by
  rw [show (31 : Int) = ((31 : Nat) : Int) from rfl, Go.u32_and_nat _ _ hx (by decide), Go.nat_mask5]
theorem keep_c : ∀ f o : Fin 16, bits .or .u32 (bits .andNot .u32 (f.val : Int) 4) (bits .and .u32 (o.val : Int) 4) = (f.val : Int) - ((f.val / 4 % 2 : Nat) : Int) * 4 + ((o.val / 4 % 2 : Nat) : Int) * 4 := by decide +kernel
theorem sum_c (V : Int) (c d : Bool) (h : 0 ≤ V ∧ V ≤ 3) : ((V + Fl.isF c 4 + Fl.isF d 8).toNat / 4 % 2 : Nat) = Fl.isF c 1 ∧ 0 ≤ V + Fl.isF c 4 + Fl.isF d 8 ∧ V + Fl.isF c 4 + Fl.isF d 8 < 16 := by
  unfold Fl.isF; cases c <;> cases d <;> simp <;> omega
theorem keep_inc (F o16 : Nat) (V : Int) (c d : Bool) (h : 0 ≤ V ∧ V ≤ 3) (e : (F : Int) = V + Fl.isF c 4 + Fl.isF d 8) (ho : o16 < 16) :
    bits .or .u32 (bits .andNot .u32 (F : Int) 4) (bits .and .u32 (o16 : Int) 4) = V + ((o16 / 4 % 2 : Nat) : Int) * 4 + Fl.isF d 8 := by
  have hs := sum_c V c d h
  have hF : F < 16 := by omega
  have := keep_c ⟨F, hF⟩ ⟨o16, ho⟩
  rw [this]
  have e2 : (V + Fl.isF c 4 + Fl.isF d 8).toNat = F := by omega
  rw [e2] at hs
  have e3 : Fl.isF c 4 = Fl.isF c 1 * 4 := (isF_one c 4).symm
  have := hs.1
  simp only at *
  omega
/-! ## The table of work -/
def wkL : List Value := [.int .u8 0, .bool false, .bool false, .int .u8 1, .bool false, .bool false, .int .u8 1, .bool true, .bool false, .int .u8 2, .bool false, .bool false, .int .u8 2, .bool true, .bool false, .int .u8 3, .bool false, .bool false, .int .u8 5, .bool false, .bool false, .int .u8 6, .bool false, .bool false, .int .u8 7, .bool false, .bool false, .int .u8 8, .bool false, .bool false, .int .u8 4, .bool false, .bool false, .int .u8 1, .bool false, .bool true, .int .u8 2, .bool false, .bool true]
def wkC : Array Value := wkL.toArray
def wkZ : Array Value := #[.int .u8 0, .bool false, .bool false, .int .u8 0, .bool false, .bool false, .int .u8 0, .bool false, .bool false, .int .u8 0, .bool false, .bool false, .int .u8 0, .bool false, .bool false, .int .u8 0, .bool false, .bool false, .int .u8 0, .bool false, .bool false, .int .u8 0, .bool false, .bool false, .int .u8 0, .bool false, .bool false, .int .u8 0, .bool false, .bool false, .int .u8 0, .bool false, .bool false, .int .u8 0, .bool false, .bool false, .int .u8 0, .bool false, .bool false]
theorem wk_info : (Try.prog.info? 194).map (fun i => (i.zero, i.size)) = some (some (.agg wkZ), 39) := by kernel_rfl
theorem wk_bel (w : World) (o1 o2 : Obj) : Below w.heap.size w ((w.alloc o1).alloc o2) := ((Below.refl _ _).alloc (Nat.le_refl _) _).alloc (by simp) _
theorem wk_bel1 (w : World) (o1 : Obj) : Below w.heap.size w (w.alloc o1) := (Below.refl _ _).alloc (Nat.le_refl _) _
theorem wk_belT {w w1 : World} {o1 o2 : Obj} (h : Below ((w.alloc o1).alloc o2).heap.size ((w.alloc o1).alloc o2) w1) : Below w.heap.size w w1 := (wk_bel w o1 o2).trans (h.mono (by simp; omega))
end Go.Proofs.Ytkgbjpdoigdjnaa
