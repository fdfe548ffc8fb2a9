import Derived.Test.YtmnifblbacgeoabVEA
namespace Go.Proofs.Ytmnifblbacgeoab.Va
open Go.RowKit
set_option maxRecDepth 100000
set_option linter.unusedVariables false
set_option linter.unusedSimpArgs false

/-! ## What bin does -/
def aluOf (w : Int) : Int := if w = 0 then 0 else if w = 1 then 2 else if w = 2 then 4 else if w = 3 then 5 else if w = 4 then 6 else if w = 5 then 9 else if w = 6 then 10 else if w = 7 then 11 else if w = 8 then 12 else if w = 9 then 13 else 0
def binF (w : Int) (a b : Nat) : Int :=
  if w < 10 then Fl.recX (aluOf w) a b 0 else if w = 10 then ((a * b / 4294967296 : Nat) : Int) else if w = 11 then (if b = 0 then 4294967295 else ((a / b : Nat) : Int))
  else if w = 12 then (if b = 0 then (a : Int) else ((a % b : Nat) : Int)) else if w = 13 then Fl.isF ((a : Int) == (b : Int)) 1 else if w = 14 then Fl.isF (decide (a < b)) 1 else Fl.isF (decide (Fl.sgn a < Fl.sgn b)) 1
theorem mul_bd (a b : Nat) (ha : a < 4294967296) (hb : b < 4294967296) : a * b < 18446744073709551616 := by
  have : a * b ≤ 4294967295 * 4294967295 := Nat.mul_le_mul (by omega) (by omega)
  omega
end Go.Proofs.Ytmnifblbacgeoab.Va
