import Derived.Test.YtmnifblbacgeoabProg
import Derived.WalkKit
import Derived.WalkSpells
import Derived.WalkLawsBesides
import Derived.Deep.QuietTactic
import Derived.BigQuiet
import Derived.BigRegion
import Derived.KernelRfl
import Derived.LoopN
import Derived.Laws.BitsAllLaws
import Derived.OwnWalk
namespace Go.Proofs.Ytmnifblbacgeoab.Va.Fl
open Go.RowKit
set_option maxRecDepth 100000
set_option linter.unusedVariables false

theorem ret_int {k : IntKind} {a b : Int} (h : a = b) : Ending.returned (.int k a) = .returned (.int k b) := by rw [h]

/-! ## The meaning's small functions -/
def isF (b : Bool) (f : Int) : Int := if b then f else 0
def sgn (x : Int) : Int := if 2147483648 ≤ x then x - 4294967296 else x
theorem sgn_bd (x : Int) (h0 : 0 ≤ x) (h1 : x < 4294967296) : -2147483648 ≤ sgn x ∧ sgn x < 2147483648 := by unfold sgn; split <;> omega
def pastB (x : Int) : Bool := decide (2147483648 ≤ x ∨ x < -2147483648)
def valF (x : Int) : Int := isF (x == 0) 1 + isF (decide (2147483648 ≤ x)) 2
theorem isF_bd (b : Bool) (f : Int) (h : 0 ≤ f) : 0 ≤ isF b f ∧ isF b f ≤ f := by unfold isF; split <;> omega
theorem valF_bd (x : Int) : 0 ≤ valF x ∧ valF x ≤ 3 := by
  have h1 := isF_bd (x == 0) 1 (by omega)
  have h2 := isF_bd (decide (2147483648 ≤ x)) 2 (by omega)
  unfold valF; omega
/-- Halved n times, rounded down. -/
theorem half_step (x : Int) : (if x < 0 then (x - 1).tdiv 2 else x.tdiv 2) = x / 2 := by
  split
  · have : (x - 1).tdiv 2 = -((1 - x) / 2) := by
      have h := Int.neg_tdiv (a := 1 - x) (b := 2)
      rw [Int.neg_sub] at h
      rw [h, Int.tdiv_eq_ediv_of_nonneg (by omega)]
    rw [this]; omega
  · rw [Int.tdiv_eq_ediv_of_nonneg (by omega)]
/-- Turned to the left by one; by n. -/
def tur1 (x : Int) : Int := 2 * x % 4294967296 + x / 2147483648
def turN : Nat → Int → Int
  | 0, x => x
  | n + 1, x => turN n (tur1 x)
theorem tur1_bd (x : Int) (h0 : 0 ≤ x) (h1 : x < 4294967296) : 0 ≤ tur1 x ∧ tur1 x < 4294967296 := by unfold tur1; omega
/-! bit by bit -/
def bitN (o : Int) (a b : Nat) : Nat := if o = 5 then a ||| b else if o = 6 then a ^^^ b else a &&& b
theorem tb (n k : Nat) : n / 2 ^ k % 2 = (n.testBit k).toNat := by
  rw [Nat.testBit_eq_decide_div_mod_eq]
  have h := Nat.mod_two_eq_zero_or_one (n / 2 ^ k)
  rcases h with h | h <;> rw [h] <;> rfl
theorem bit_and (a b k : Nat) : (a &&& b) / 2 ^ k % 2 = (a / 2 ^ k % 2) * (b / 2 ^ k % 2) := by
  rw [tb, tb, tb, Nat.testBit_and]
  cases a.testBit k <;> cases b.testBit k <;> rfl
theorem bit_or (a b k : Nat) : (a ||| b) / 2 ^ k % 2 = (a / 2 ^ k % 2) + (b / 2 ^ k % 2) - (a / 2 ^ k % 2) * (b / 2 ^ k % 2) := by
  rw [tb, tb, tb, Nat.testBit_or]
  cases a.testBit k <;> cases b.testBit k <;> rfl
theorem bit_xor (a b k : Nat) : (a ^^^ b) / 2 ^ k % 2 = ((a / 2 ^ k % 2) + (b / 2 ^ k % 2)) % 2 := by
  rw [tb, tb, tb, Nat.testBit_xor]
  cases a.testBit k <;> cases b.testBit k <;> rfl
theorem bit_low (n k : Nat) : n / 2 ^ k = 2 * (n / 2 ^ (k + 1)) + n / 2 ^ k % 2 := by
  rw [Nat.pow_succ, ← Nat.div_div_eq_div_mul]; omega
theorem bitN_lt (o : Int) (a b : Nat) (ha : a < 4294967296) (hb : b < 4294967296) : bitN o a b < 4294967296 := by
  unfold bitN
  split
  · exact Nat.or_lt_two_pow (n := 32) ha hb
  · split
    · exact Nat.xor_lt_two_pow (n := 32) ha hb
    · exact Nat.and_lt_two_pow (n := 32) _ hb
end Go.Proofs.Ytmnifblbacgeoab.Va.Fl

namespace Go.Proofs.Ytmnifblbacgeoab.Va.Fl
open Go.RowKit
set_option maxRecDepth 100000
set_option linter.unusedVariables false

structure BitR (o : Int) (a b j : Nat) (x : Int) : Prop where
  le : j ≤ 32
  eq : x = ((bitN o a b / 2 ^ j : Nat) : Int)
  lt : bitN o a b < 4294967296

theorem bits_one (o : Int) (a b t : Nat) (P Q : Nat) (hP : P = a / 2 ^ t % 2) (hQ : Q = b / 2 ^ t % 2) (ha : a < 4294967296) (hb : b < 4294967296) :
    bitN o a b / 2 ^ t = 2 * (bitN o a b / 2 ^ (t + 1)) + (if o = 5 then P + Q - P * Q else if o = 6 then (P + Q) % 2 else P * Q) := by
  rw [bit_low (bitN o a b) t]
  congr 1
  unfold bitN
  subst hP hQ
  split
  · rw [bit_or]
  · split
    · rw [bit_xor]
    · rw [bit_and]

end Go.Proofs.Ytmnifblbacgeoab.Va.Fl

namespace Go.Proofs.Ytmnifblbacgeoab.Va.Fl
open Go.RowKit
set_option maxRecDepth 100000
set_option linter.unusedVariables false

/-- The carry that counts. -/
def carF (old : Nat) : Int := ((old % 16 / 4 % 2 : Nat) : Int)
theorem carF_bd (old : Nat) : 0 ≤ carF old ∧ carF old ≤ 1 := by unfold carF; omega
def addF (a b : Nat) (c : Int) : Int := valF (((a : Int) + b + c) % 4294967296) + isF (decide (4294967296 ≤ (a : Int) + b + c)) 4 + isF (pastB (sgn a + sgn b + c)) 8
def subF (a b : Nat) (c : Int) : Int := valF (((a : Int) - b - c) % 4294967296) + isF (decide ((a : Int) - b - c < 0)) 4 + isF (pastB (sgn a - sgn b - c)) 8
def mulF (a b : Nat) : Int := valF ((a * b % 4294967296 : Nat) : Int) + isF (decide (4294967296 ≤ a * b)) 12
def incF (a old : Nat) : Int := valF (((a : Int) + 1) % 4294967296) + carF old * 4 + isF (pastB (sgn a + 1)) 8
def decF (a old : Nat) : Int := valF (((a : Int) - 1) % 4294967296) + carF old * 4 + isF (pastB (sgn a - 1)) 8
def shlF (a n : Nat) : Int := valF ((a * 2 ^ n % 4294967296 : Nat) : Int) + isF (a * 2 ^ n / 4294967296 % 2 == 1) 4
def shrF (a n : Nat) : Int := valF ((a : Int) / 2 ^ n) + isF ((a : Int) / 2 ^ (n - 1) % 2 == 1) 4
def sarF (a n : Nat) : Int := valF (sgn a / 2 ^ (n - 1) / 2 % 4294967296) + isF (sgn a / 2 ^ (n - 1) % 4294967296 % 2 == 1) 4
def rolF (a n old : Nat) : Int := ((old % 16 : Nat) : Int) - carF old * 4 + isF (turN n a % 2 == 1) 4

end Go.Proofs.Ytmnifblbacgeoab.Va.Fl

namespace Go.Proofs.Ytmnifblbacgeoab.Va.Fl
open Go.RowKit
set_option maxRecDepth 100000
set_option linter.unusedVariables false

end Go.Proofs.Ytmnifblbacgeoab.Va.Fl

namespace Go.Proofs.Ytmnifblbacgeoab.Va.Fl
open Go.RowKit
set_option maxRecDepth 100000
set_option linter.unusedVariables false

theorem ediv_bd (x : Int) (n : Nat) (h0 : 0 ≤ x) : 0 ≤ x / 2 ^ n ∧ x / 2 ^ n ≤ x := ⟨Int.ediv_nonneg h0 (Int.le_of_lt (Int.pow_pos (by decide))), Int.ediv_le_self _ h0⟩
theorem ediv_bd2 (x : Int) (n : Nat) (h0 : -2147483648 ≤ x) (h1 : x < 2147483648) : -2147483648 ≤ x / 2 ^ n ∧ x / 2 ^ n < 2147483648 := by
  have hp : (0 : Int) < 2 ^ n := Int.pow_pos (by decide)
  by_cases hx : 0 ≤ x
  · have := ediv_bd x n hx; omega
  · have h2 : x / 2 ^ n < 0 := Int.ediv_neg_of_neg_of_pos (by omega) hp
    have h3 : x ≤ x / 2 ^ n := by
      have := Int.le_ediv_of_mul_le hp (a := x) (b := x) (by
        have : x * 2 ^ n ≤ x * 1 := Int.mul_le_mul_of_nonpos_left (by omega) (by omega)
        omega)
      exact this
    omega
theorem turN_bd : ∀ (n : Nat) (x : Int), 0 ≤ x → x < 4294967296 → 0 ≤ turN n x ∧ turN n x < 4294967296
  | 0, x, h0, h1 => ⟨h0, h1⟩
  | n + 1, x, h0, h1 => turN_bd n (tur1 x) (tur1_bd x h0 h1).1 (tur1_bd x h0 h1).2

/-- How flags are made. -/
def flagsF (k : Int) (a b old : Nat) : Int :=
  if k = 1 then addF a b 0 else if k = 2 then addF a b (carF old) else if k = 3 then subF a b 0 else if k = 4 then subF a b (carF old)
  else if k = 5 then valF a else if k = 10 then mulF a b else if k = 11 then incF a old else if k = 12 then decF a old
  else if (k = 6 ∨ k = 7 ∨ k = 8 ∨ k = 9) ∧ 0 < b % 32 then
    (if k = 6 then shlF a (b % 32) else if k = 7 then shrF a (b % 32) else if k = 8 then sarF a (b % 32) else rolF a (b % 32) old)
  else (old : Int) % 16
end Go.Proofs.Ytmnifblbacgeoab.Va.Fl

namespace Go.Proofs.Ytmnifblbacgeoab.Va.Fl
open Go.RowKit
set_option maxRecDepth 100000
set_option linter.unusedVariables false

/-- The rows of conditions. -/
def rowB (q : Int) (z n y v : Bool) : Bool :=
  if q = 0 then v else if q = 1 then y else if q = 2 then z else if q = 3 then (y || z) else if q = 4 then n else if q = 5 then (n != v) else if q = 6 then (z || (n != v)) else true
def holdsZ (c : Int) (z n y v : Bool) : Bool := if c < 0 ∨ 15 < c then false else if c % 2 = 1 then !(rowB (c / 2) z n y v) else rowB (c / 2) z n y v
def holdsF (c : Int) (f : Nat) : Bool := holdsZ c ((f : Int) % 2 == 1) ((f : Int) / 2 % 2 == 1) ((f : Int) / 4 % 2 == 1) ((f : Int) / 8 % 2 == 1)

end Go.Proofs.Ytmnifblbacgeoab.Va.Fl
namespace Go.Proofs.Ytmnifblbacgeoab.Va.Fl
open Go.RowKit
set_option maxRecDepth 100000
set_option linter.unusedVariables false

end Go.Proofs.Ytmnifblbacgeoab.Va.Fl

namespace Go.Proofs.Ytmnifblbacgeoab.Va.Fl
open Go.RowKit
set_option maxRecDepth 100000
set_option linter.unusedVariables false

end Go.Proofs.Ytmnifblbacgeoab.Va.Fl
namespace Go.Proofs.Ytmnifblbacgeoab.Va.Fl
open Go.RowKit
set_option maxRecDepth 100000
set_option linter.unusedVariables false

end Go.Proofs.Ytmnifblbacgeoab.Va.Fl

namespace Go.Proofs.Ytmnifblbacgeoab.Va.Fl
open Go.RowKit
set_option maxRecDepth 100000
set_option linter.unusedVariables false

end Go.Proofs.Ytmnifblbacgeoab.Va.Fl
namespace Go.Proofs.Ytmnifblbacgeoab.Va.Fl
open Go.RowKit

end Go.Proofs.Ytmnifblbacgeoab.Va.Fl

namespace Go.Proofs.Ytmnifblbacgeoab.Va.Fl
open Go.RowKit
set_option maxRecDepth 100000
set_option linter.unusedVariables false

theorem carF_eq (f : Nat) : (f : Int) / 4 % 2 = carF f := by unfold carF; omega

end Go.Proofs.Ytmnifblbacgeoab.Va.Fl

namespace Go.Proofs.Ytmnifblbacgeoab.Va.Fl
open Go.RowKit
set_option maxRecDepth 100000
set_option linter.unusedVariables false

/-- What is reckoned: the value, the flags, whether. -/
def recX (o : Int) (a b f : Nat) : Int :=
  if o = 0 then ((a : Int) + b) % 4294967296 else if o = 1 then ((a : Int) + b + carF f) % 4294967296 else if o = 2 then ((a : Int) - b) % 4294967296 else if o = 3 then ((a : Int) - b - carF f) % 4294967296
  else if o = 4 ∨ o = 5 ∨ o = 6 then (bitN o a b : Int) else if o = 7 ∨ o = 8 then (a : Int) else if o = 9 then ((a * 2 ^ (b % 32) % 4294967296 : Nat) : Int) else if o = 10 then (a : Int) / 2 ^ (b % 32)
  else if o = 11 then sgn a / 2 ^ (b % 32) % 4294967296 else if o = 12 then turN (b % 32) a else if o = 13 then ((a * b % 4294967296 : Nat) : Int)
  else if o = 14 ∧ 0 < b then ((a / b : Nat) : Int) else if o = 15 ∧ 0 < b then ((a % b : Nat) : Int) else 0
def recFl (o : Int) (a b f : Nat) : Int :=
  if o = 0 then flagsF 1 a b f else if o = 1 then flagsF 2 a b f else if o = 2 then flagsF 3 a b f else if o = 3 then flagsF 4 a b f
  else if o = 4 ∨ o = 5 ∨ o = 6 then valF (bitN o a b) else if o = 7 then flagsF 3 a b f else if o = 8 then valF (bitN 4 a b) else if o = 9 then flagsF 6 a b f else if o = 10 then flagsF 7 a b f
  else if o = 11 then flagsF 8 a b f else if o = 12 then flagsF 9 a b f else if o = 13 then flagsF 10 a b f
  else if o = 14 ∧ 0 < b then valF ((a / b : Nat) : Int) else if o = 15 ∧ 0 < b then valF ((a % b : Nat) : Int) else 0
def recOk (o : Int) (b : Nat) : Bool := decide ((0 ≤ o ∧ o ≤ 13) ∨ ((o = 14 ∨ o = 15) ∧ 0 < b))
end Go.Proofs.Ytmnifblbacgeoab.Va.Fl
