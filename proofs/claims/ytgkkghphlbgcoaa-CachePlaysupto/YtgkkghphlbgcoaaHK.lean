import Derived.Test.YtgkkghphlbgcoaaHI
import Derived.Test.YtgkkghphlbgcoaaHJ4
namespace Go.Proofs.Ytgkkghphlbgcoaa.Ho
open Go.RowKit
set_option maxRecDepth 100000
set_option linter.unusedVariables false
set_option linter.unusedSimpArgs false
theorem fm_cls : ∀ op : Fin 256, (fmR (op.val : Int)).n = 0 ∨ ((fmR (op.val : Int)).s = #[110] ∧ (fmR (op.val : Int)).n = 2 ∧ op.val ≠ 12 ∧ op.val ≠ 13) ∨ ((fmR (op.val : Int)).s = #[100] ∧ (fmR (op.val : Int)).n = 2 ∧ op.val ≠ 12 ∧ op.val ≠ 13) ∨ ((fmR (op.val : Int)).s = #[100, 97] ∧ (fmR (op.val : Int)).n = 1 ∧ op.val ≠ 12 ∧ op.val ≠ 13) ∨ ((fmR (op.val : Int)).s = #[97, 110] ∧ (fmR (op.val : Int)).n = 1 ∧ op.val ≠ 12 ∧ op.val ≠ 13) ∨ ((fmR (op.val : Int)).s = #[100, 97, 98, 99] ∧ (fmR (op.val : Int)).n = 1 ∧ op.val ≠ 12 ∧ op.val ≠ 13) ∨ ((fmR (op.val : Int)).s = #[100, 110] ∧ (fmR (op.val : Int)).n = 1 ∧ op.val ≠ 12 ∧ op.val ≠ 13) ∨ ((fmR (op.val : Int)).s = #[97, 110] ∧ (fmR (op.val : Int)).n = 2 ∧ op.val ≠ 12 ∧ op.val ≠ 13) ∨ ((fmR (op.val : Int)).s = #[100, 110] ∧ (fmR (op.val : Int)).n = 3 ∧ op.val = 12) ∨ ((fmR (op.val : Int)).s = #[100, 97, 110] ∧ (fmR (op.val : Int)).n = 2 ∧ op.val ≠ 12 ∧ op.val ≠ 13) ∨ ((fmR (op.val : Int)).s = #[100, 97, 110] ∧ (fmR (op.val : Int)).n = 2 ∧ op.val = 13) ∨ ((fmR (op.val : Int)).s = #[100, 97, 98] ∧ (fmR (op.val : Int)).n = 1 ∧ op.val ≠ 12 ∧ op.val ≠ 13) ∨ ((fmR (op.val : Int)).s = #[100] ∧ (fmR (op.val : Int)).n = 1 ∧ op.val ≠ 12 ∧ op.val ≠ 13) := by decide +kernel
/-- The two tables say the same. -/
def linkB (op : Nat) : Bool :=
  match hit (op : Int) with
  | none => (fmR (op : Int)).n == 0
  | some k => (fmR (op : Int)).n == szN (foOf k).has && (hasB (fmR (op : Int)).s 100 == hb (foOf k).has 448) && (hasB (fmR (op : Int)).s 97 == hb (foOf k).has 1) && (hasB (fmR (op : Int)).s 98 == hb (foOf k).has 2)
    && (hasB (fmR (op : Int)).s 99 == hb (foOf k).has 4) && (hasB (fmR (op : Int)).s 110 == hb (foOf k).has 8) && (hb (foOf k).has 256 == (op == 12 || op == 13)) && (if hasB (fmR (op : Int)).s 110 then decide ((fmR (op : Int)).most = (foOf k).most + 1) else decide (0 ≤ (foOf k).most))
    && (!(hasB (fmR (op : Int)).s 110) || (!(hasB (fmR (op : Int)).s 98) && !(hasB (fmR (op : Int)).s 99)))
theorem link_all : ∀ op : Fin 256, linkB op.val = true := by decide +kernel
/-- The instruction that the document reads. -/
def xR (f : Fm) (v u1 u2 : Nat) : Cd :=
  ⟨((v % 256 : Nat) : Int), if hasB f.s 100 then (v : Int) / 256 % 16 else 0, if hasB f.s 97 then (v : Int) / 4096 % 16 else 0, if hasB f.s 98 then (v : Int) / 65536 % 16 else 0, if hasB f.s 99 then (v : Int) / 1048576 % 16 else 0, if hasB f.s 110 then (v : Int) / 65536 else 0, if 1 < f.n then u1 else 0, if 2 < f.n then u2 else 0⟩
set_option maxHeartbeats 8000000 in
theorem rd_fields (D A B C M : Bool) (v : Nat) (hv : v < 4294967296) (hM : M = true → B = false ∧ C = false) :
    let r1 := rst true 1 256 v
    let r2 := rst D 256 16 r1
    let r3 := rst A 4096 16 r2
    let r4 := rst B 65536 16 r3
    let r5 := rst C 1048576 16 r4
    let r6 := rst M 65536 65536 r5
    (fld true 1 256 v : Int) = ((v % 256 : Nat) : Int) ∧ (fld D 256 16 r1 : Int) = (if D then (v : Int) / 256 % 16 else 0) ∧ (fld A 4096 16 r2 : Int) = (if A then (v : Int) / 4096 % 16 else 0) ∧ (fld B 65536 16 r3 : Int) = (if B then (v : Int) / 65536 % 16 else 0)
    ∧ (fld C 1048576 16 r4 : Int) = (if C then (v : Int) / 1048576 % 16 else 0) ∧ (fld M 65536 65536 r5 : Int) = (if M then (v : Int) / 65536 else 0)
    ∧ (r6 = 0 ↔ (((v % 256 : Nat) : Int) + 256 * (if D then (v : Int) / 256 % 16 else 0) + 4096 * (if A then (v : Int) / 4096 % 16 else 0) + 65536 * (if B then (v : Int) / 65536 % 16 else 0) + 1048576 * (if C then (v : Int) / 1048576 % 16 else 0) + 65536 * (if M then (v : Int) / 65536 else 0)) % 4294967296 = v) := by
  cases M
  · cases D <;> cases A <;> cases B <;> cases C <;> simp only [fld, rst, if_true, if_false, Bool.false_eq_true] <;> refine ⟨?_, ?_, ?_, ?_, ?_, ?_, ?_⟩ <;> omega
  · obtain ⟨rfl, rfl⟩ := hM rfl
    cases D <;> cases A <;> simp only [fld, rst, if_true, if_false, Bool.false_eq_true] <;> refine ⟨?_, ?_, ?_, ?_, ?_, ?_, ?_⟩ <;> omega
end Go.Proofs.Ytgkkghphlbgcoaa.Ho
