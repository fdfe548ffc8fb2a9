import Derived.Test.YtocefkpnlgfebabHB
import Derived.OwnWalk
namespace Go.Proofs.Ytocefkpnlgfebab.Ho
open Go.RowKit
set_option linter.unusedVariables false
set_option linter.unusedSimpArgs false
structure Fm where
  s : Array UInt8
  most : Int
  n : Nat
/-- What the document says an op has: by what is in its first word, how N is bounded, how many words. -/
def fmR (op : Int) : Fm :=
  if op = 1 then ⟨#[110], 65, 2⟩
  else if op = 2 then ⟨#[100], 0, 2⟩
  else if op = 3 then ⟨#[100, 97], 0, 1⟩
  else if op = 4 then ⟨#[97, 110], 65, 1⟩
  else if op = 5 then ⟨#[100, 97, 98, 99], 0, 1⟩
  else if op = 6 then ⟨#[100, 110], 12, 1⟩
  else if op = 7 then ⟨#[97, 110], 12, 1⟩
  else if op = 8 then ⟨#[100, 110], 2048, 1⟩
  else if op = 9 then ⟨#[97, 110], 2048, 1⟩
  else if op = 10 then ⟨#[110], 65, 2⟩
  else if op = 11 then ⟨#[97, 110], 65, 2⟩
  else if op = 12 then ⟨#[100, 110], 65, 3⟩
  else if op = 13 then ⟨#[100, 97, 110], 65, 2⟩
  else if op = 14 then ⟨#[110], 65, 2⟩
  else if op = 15 then ⟨#[110], 65, 2⟩
  else if 16 ≤ op ∧ op ≤ 31 then ⟨#[100, 97, 98], 0, 1⟩
  else if 32 ≤ op ∧ op ≤ 38 then ⟨#[100, 97], 0, 1⟩
  else if 48 ≤ op ∧ op ≤ 60 then ⟨#[100, 97, 98, 99], 0, 1⟩
  else if 64 ≤ op ∧ op ≤ 79 then ⟨#[100, 97], 0, 1⟩
  else if 80 ≤ op ∧ op ≤ 84 then ⟨#[100, 97, 110], 65, 2⟩
  else if 88 ≤ op ∧ op ≤ 90 then ⟨#[100, 97, 110], 65, 2⟩
  else if op = 96 then ⟨#[97, 110], 65, 2⟩
  else if op = 97 then ⟨#[100], 0, 1⟩
  else ⟨#[], 0, 0⟩
abbrev frmV (f : Fm) : Value := .tuple #[.string ⟨f.s⟩, .int .i64 f.most, .int .i64 f.n]
set_option maxRecDepth 100000
theorem frm0 (w : World) : Calls Try.prog 58 #[.int .i64 1] w fun e w' => e = .returned (frmV ⟨#[110], 65, 2⟩) ∧ w = w' := by
  go_enter Try.func58, Try.ntmps58; go_wp2; go_ret3; exact ⟨rfl, rfl⟩
theorem frm1 (w : World) : Calls Try.prog 58 #[.int .i64 2] w fun e w' => e = .returned (frmV ⟨#[100], 0, 2⟩) ∧ w = w' := by
  go_enter Try.func58, Try.ntmps58; go_wp2; go_ret3; exact ⟨rfl, rfl⟩
theorem frm2 (w : World) : Calls Try.prog 58 #[.int .i64 3] w fun e w' => e = .returned (frmV ⟨#[100, 97], 0, 1⟩) ∧ w = w' := by
  go_enter Try.func58, Try.ntmps58; go_wp2; go_ret3; exact ⟨rfl, rfl⟩
theorem frm3 (w : World) : Calls Try.prog 58 #[.int .i64 4] w fun e w' => e = .returned (frmV ⟨#[97, 110], 65, 1⟩) ∧ w = w' := by
  go_enter Try.func58, Try.ntmps58; go_wp2; go_ret3; exact ⟨rfl, rfl⟩
theorem frm4 (w : World) : Calls Try.prog 58 #[.int .i64 5] w fun e w' => e = .returned (frmV ⟨#[100, 97, 98, 99], 0, 1⟩) ∧ w = w' := by
  go_enter Try.func58, Try.ntmps58; go_wp2; go_ret3; exact ⟨rfl, rfl⟩
theorem frm5 (w : World) : Calls Try.prog 58 #[.int .i64 6] w fun e w' => e = .returned (frmV ⟨#[100, 110], 12, 1⟩) ∧ w = w' := by
  go_enter Try.func58, Try.ntmps58; go_wp2; go_ret3; exact ⟨rfl, rfl⟩
theorem frm6 (w : World) : Calls Try.prog 58 #[.int .i64 7] w fun e w' => e = .returned (frmV ⟨#[97, 110], 12, 1⟩) ∧ w = w' := by
  go_enter Try.func58, Try.ntmps58; go_wp2; go_ret3; exact ⟨rfl, rfl⟩
theorem frm7 (w : World) : Calls Try.prog 58 #[.int .i64 8] w fun e w' => e = .returned (frmV ⟨#[100, 110], 2048, 1⟩) ∧ w = w' := by
  go_enter Try.func58, Try.ntmps58; go_wp2; go_ret3; exact ⟨rfl, rfl⟩
theorem frm8 (w : World) : Calls Try.prog 58 #[.int .i64 9] w fun e w' => e = .returned (frmV ⟨#[97, 110], 2048, 1⟩) ∧ w = w' := by
  go_enter Try.func58, Try.ntmps58; go_wp2; go_ret3; exact ⟨rfl, rfl⟩
theorem frm9 (w : World) : Calls Try.prog 58 #[.int .i64 10] w fun e w' => e = .returned (frmV ⟨#[110], 65, 2⟩) ∧ w = w' := by
  go_enter Try.func58, Try.ntmps58; go_wp2; go_ret3; exact ⟨rfl, rfl⟩
theorem frm10 (w : World) : Calls Try.prog 58 #[.int .i64 11] w fun e w' => e = .returned (frmV ⟨#[97, 110], 65, 2⟩) ∧ w = w' := by
  go_enter Try.func58, Try.ntmps58; go_wp2; go_ret3; exact ⟨rfl, rfl⟩
theorem frm11 (w : World) : Calls Try.prog 58 #[.int .i64 12] w fun e w' => e = .returned (frmV ⟨#[100, 110], 65, 3⟩) ∧ w = w' := by
  go_enter Try.func58, Try.ntmps58; go_wp2; go_ret3; exact ⟨rfl, rfl⟩
theorem frm12 (w : World) : Calls Try.prog 58 #[.int .i64 13] w fun e w' => e = .returned (frmV ⟨#[100, 97, 110], 65, 2⟩) ∧ w = w' := by
  go_enter Try.func58, Try.ntmps58; go_wp2; go_ret3; exact ⟨rfl, rfl⟩
theorem frm13 (w : World) : Calls Try.prog 58 #[.int .i64 14] w fun e w' => e = .returned (frmV ⟨#[110], 65, 2⟩) ∧ w = w' := by
  go_enter Try.func58, Try.ntmps58; go_wp2; go_ret3; exact ⟨rfl, rfl⟩
theorem frm14 (w : World) : Calls Try.prog 58 #[.int .i64 15] w fun e w' => e = .returned (frmV ⟨#[110], 65, 2⟩) ∧ w = w' := by
  go_enter Try.func58, Try.ntmps58; go_wp2; go_ret3; exact ⟨rfl, rfl⟩
set_option maxHeartbeats 1000000 in
theorem frm15 (op : Int) (h0 : 16 ≤ op) (h1 : op ≤ 31) (w : World) : Calls Try.prog 58 #[.int .i64 op] w fun e w' => e = .returned (frmV ⟨#[100, 97, 98], 0, 1⟩) ∧ w = w' := by
  have q1 : (op == 1) = false := by simp; omega
  have q10 : (op == 10) = false := by simp; omega
  have q14 : (op == 14) = false := by simp; omega
  have q15 : (op == 15) = false := by simp; omega
  have q2 : (op == 2) = false := by simp; omega
  have q3 : (op == 3) = false := by simp; omega
  have q4 : (op == 4) = false := by simp; omega
  have q5 : (op == 5) = false := by simp; omega
  have q6 : (op == 6) = false := by simp; omega
  have q7 : (op == 7) = false := by simp; omega
  have q8 : (op == 8) = false := by simp; omega
  have q9 : (op == 9) = false := by simp; omega
  have q11 : (op == 11) = false := by simp; omega
  have q96 : (op == 96) = false := by simp; omega
  have q12 : (op == 12) = false := by simp; omega
  have q13 : (op == 13) = false := by simp; omega
  have q97 : (op == 97) = false := by simp; omega
  have g48 : ¬ 48 ≤ op := by omega
  have g16 : 16 ≤ op := by omega
  have g32 : ¬ 32 ≤ op := by omega
  have g64 : ¬ 64 ≤ op := by omega
  have g80 : ¬ 80 ≤ op := by omega
  have g88 : ¬ 88 ≤ op := by omega
  have l60 : op ≤ 60 := by omega
  have l31 : op ≤ 31 := by omega
  have l38 : op ≤ 38 := by omega
  have l79 : op ≤ 79 := by omega
  have l84 : op ≤ 84 := by omega
  have l90 : op ≤ 90 := by omega
  go_enter Try.func58, Try.ntmps58; go_wp2; go_ret3; exact ⟨rfl, rfl⟩
set_option maxHeartbeats 1000000 in
theorem frm16 (op : Int) (h0 : 32 ≤ op) (h1 : op ≤ 38) (w : World) : Calls Try.prog 58 #[.int .i64 op] w fun e w' => e = .returned (frmV ⟨#[100, 97], 0, 1⟩) ∧ w = w' := by
  have q1 : (op == 1) = false := by simp; omega
  have q10 : (op == 10) = false := by simp; omega
  have q14 : (op == 14) = false := by simp; omega
  have q15 : (op == 15) = false := by simp; omega
  have q2 : (op == 2) = false := by simp; omega
  have q3 : (op == 3) = false := by simp; omega
  have q4 : (op == 4) = false := by simp; omega
  have q5 : (op == 5) = false := by simp; omega
  have q6 : (op == 6) = false := by simp; omega
  have q7 : (op == 7) = false := by simp; omega
  have q8 : (op == 8) = false := by simp; omega
  have q9 : (op == 9) = false := by simp; omega
  have q11 : (op == 11) = false := by simp; omega
  have q96 : (op == 96) = false := by simp; omega
  have q12 : (op == 12) = false := by simp; omega
  have q13 : (op == 13) = false := by simp; omega
  have q97 : (op == 97) = false := by simp; omega
  have g48 : ¬ 48 ≤ op := by omega
  have g16 : 16 ≤ op := by omega
  have g32 : 32 ≤ op := by omega
  have g64 : ¬ 64 ≤ op := by omega
  have g80 : ¬ 80 ≤ op := by omega
  have g88 : ¬ 88 ≤ op := by omega
  have l60 : op ≤ 60 := by omega
  have l31 : ¬ op ≤ 31 := by omega
  have l38 : op ≤ 38 := by omega
  have l79 : op ≤ 79 := by omega
  have l84 : op ≤ 84 := by omega
  have l90 : op ≤ 90 := by omega
  go_enter Try.func58, Try.ntmps58; go_wp2; go_ret3; exact ⟨rfl, rfl⟩
set_option maxHeartbeats 1000000 in
theorem frm17 (op : Int) (h0 : 48 ≤ op) (h1 : op ≤ 60) (w : World) : Calls Try.prog 58 #[.int .i64 op] w fun e w' => e = .returned (frmV ⟨#[100, 97, 98, 99], 0, 1⟩) ∧ w = w' := by
  have q1 : (op == 1) = false := by simp; omega
  have q10 : (op == 10) = false := by simp; omega
  have q14 : (op == 14) = false := by simp; omega
  have q15 : (op == 15) = false := by simp; omega
  have q2 : (op == 2) = false := by simp; omega
  have q3 : (op == 3) = false := by simp; omega
  have q4 : (op == 4) = false := by simp; omega
  have q5 : (op == 5) = false := by simp; omega
  have q6 : (op == 6) = false := by simp; omega
  have q7 : (op == 7) = false := by simp; omega
  have q8 : (op == 8) = false := by simp; omega
  have q9 : (op == 9) = false := by simp; omega
  have q11 : (op == 11) = false := by simp; omega
  have q96 : (op == 96) = false := by simp; omega
  have q12 : (op == 12) = false := by simp; omega
  have q13 : (op == 13) = false := by simp; omega
  have q97 : (op == 97) = false := by simp; omega
  have g48 : 48 ≤ op := by omega
  have g16 : 16 ≤ op := by omega
  have g32 : 32 ≤ op := by omega
  have g64 : ¬ 64 ≤ op := by omega
  have g80 : ¬ 80 ≤ op := by omega
  have g88 : ¬ 88 ≤ op := by omega
  have l60 : op ≤ 60 := by omega
  have l31 : ¬ op ≤ 31 := by omega
  have l38 : ¬ op ≤ 38 := by omega
  have l79 : op ≤ 79 := by omega
  have l84 : op ≤ 84 := by omega
  have l90 : op ≤ 90 := by omega
  go_enter Try.func58, Try.ntmps58; go_wp2; go_ret3; exact ⟨rfl, rfl⟩
set_option maxHeartbeats 1000000 in
theorem frm18 (op : Int) (h0 : 64 ≤ op) (h1 : op ≤ 79) (w : World) : Calls Try.prog 58 #[.int .i64 op] w fun e w' => e = .returned (frmV ⟨#[100, 97], 0, 1⟩) ∧ w = w' := by
  have q1 : (op == 1) = false := by simp; omega
  have q10 : (op == 10) = false := by simp; omega
  have q14 : (op == 14) = false := by simp; omega
  have q15 : (op == 15) = false := by simp; omega
  have q2 : (op == 2) = false := by simp; omega
  have q3 : (op == 3) = false := by simp; omega
  have q4 : (op == 4) = false := by simp; omega
  have q5 : (op == 5) = false := by simp; omega
  have q6 : (op == 6) = false := by simp; omega
  have q7 : (op == 7) = false := by simp; omega
  have q8 : (op == 8) = false := by simp; omega
  have q9 : (op == 9) = false := by simp; omega
  have q11 : (op == 11) = false := by simp; omega
  have q96 : (op == 96) = false := by simp; omega
  have q12 : (op == 12) = false := by simp; omega
  have q13 : (op == 13) = false := by simp; omega
  have q97 : (op == 97) = false := by simp; omega
  have g48 : 48 ≤ op := by omega
  have g16 : 16 ≤ op := by omega
  have g32 : 32 ≤ op := by omega
  have g64 : 64 ≤ op := by omega
  have g80 : ¬ 80 ≤ op := by omega
  have g88 : ¬ 88 ≤ op := by omega
  have l60 : ¬ op ≤ 60 := by omega
  have l31 : ¬ op ≤ 31 := by omega
  have l38 : ¬ op ≤ 38 := by omega
  have l79 : op ≤ 79 := by omega
  have l84 : op ≤ 84 := by omega
  have l90 : op ≤ 90 := by omega
  go_enter Try.func58, Try.ntmps58; go_wp2; go_ret3; exact ⟨rfl, rfl⟩
set_option maxHeartbeats 1000000 in
theorem frm19 (op : Int) (h0 : 80 ≤ op) (h1 : op ≤ 84) (w : World) : Calls Try.prog 58 #[.int .i64 op] w fun e w' => e = .returned (frmV ⟨#[100, 97, 110], 65, 2⟩) ∧ w = w' := by
  have q1 : (op == 1) = false := by simp; omega
  have q10 : (op == 10) = false := by simp; omega
  have q14 : (op == 14) = false := by simp; omega
  have q15 : (op == 15) = false := by simp; omega
  have q2 : (op == 2) = false := by simp; omega
  have q3 : (op == 3) = false := by simp; omega
  have q4 : (op == 4) = false := by simp; omega
  have q5 : (op == 5) = false := by simp; omega
  have q6 : (op == 6) = false := by simp; omega
  have q7 : (op == 7) = false := by simp; omega
  have q8 : (op == 8) = false := by simp; omega
  have q9 : (op == 9) = false := by simp; omega
  have q11 : (op == 11) = false := by simp; omega
  have q96 : (op == 96) = false := by simp; omega
  have q12 : (op == 12) = false := by simp; omega
  have q13 : (op == 13) = false := by simp; omega
  have q97 : (op == 97) = false := by simp; omega
  have g48 : 48 ≤ op := by omega
  have g16 : 16 ≤ op := by omega
  have g32 : 32 ≤ op := by omega
  have g64 : 64 ≤ op := by omega
  have g80 : 80 ≤ op := by omega
  have g88 : ¬ 88 ≤ op := by omega
  have l60 : ¬ op ≤ 60 := by omega
  have l31 : ¬ op ≤ 31 := by omega
  have l38 : ¬ op ≤ 38 := by omega
  have l79 : ¬ op ≤ 79 := by omega
  have l84 : op ≤ 84 := by omega
  have l90 : op ≤ 90 := by omega
  go_enter Try.func58, Try.ntmps58; go_wp2; go_ret3; exact ⟨rfl, rfl⟩
set_option maxHeartbeats 1000000 in
theorem frm20 (op : Int) (h0 : 88 ≤ op) (h1 : op ≤ 90) (w : World) : Calls Try.prog 58 #[.int .i64 op] w fun e w' => e = .returned (frmV ⟨#[100, 97, 110], 65, 2⟩) ∧ w = w' := by
  have q1 : (op == 1) = false := by simp; omega
  have q10 : (op == 10) = false := by simp; omega
  have q14 : (op == 14) = false := by simp; omega
  have q15 : (op == 15) = false := by simp; omega
  have q2 : (op == 2) = false := by simp; omega
  have q3 : (op == 3) = false := by simp; omega
  have q4 : (op == 4) = false := by simp; omega
  have q5 : (op == 5) = false := by simp; omega
  have q6 : (op == 6) = false := by simp; omega
  have q7 : (op == 7) = false := by simp; omega
  have q8 : (op == 8) = false := by simp; omega
  have q9 : (op == 9) = false := by simp; omega
  have q11 : (op == 11) = false := by simp; omega
  have q96 : (op == 96) = false := by simp; omega
  have q12 : (op == 12) = false := by simp; omega
  have q13 : (op == 13) = false := by simp; omega
  have q97 : (op == 97) = false := by simp; omega
  have g48 : 48 ≤ op := by omega
  have g16 : 16 ≤ op := by omega
  have g32 : 32 ≤ op := by omega
  have g64 : 64 ≤ op := by omega
  have g80 : 80 ≤ op := by omega
  have g88 : 88 ≤ op := by omega
  have l60 : ¬ op ≤ 60 := by omega
  have l31 : ¬ op ≤ 31 := by omega
  have l38 : ¬ op ≤ 38 := by omega
  have l79 : ¬ op ≤ 79 := by omega
  have l84 : ¬ op ≤ 84 := by omega
  have l90 : op ≤ 90 := by omega
  go_enter Try.func58, Try.ntmps58; go_wp2; go_ret3; exact ⟨rfl, rfl⟩
theorem frm21 (w : World) : Calls Try.prog 58 #[.int .i64 96] w fun e w' => e = .returned (frmV ⟨#[97, 110], 65, 2⟩) ∧ w = w' := by
  go_enter Try.func58, Try.ntmps58; go_wp2; go_ret3; exact ⟨rfl, rfl⟩
theorem frm22 (w : World) : Calls Try.prog 58 #[.int .i64 97] w fun e w' => e = .returned (frmV ⟨#[100], 0, 1⟩) ∧ w = w' := by
  go_enter Try.func58, Try.ntmps58; go_wp2; go_ret3; exact ⟨rfl, rfl⟩
set_option maxHeartbeats 1000000 in
theorem frm23 (op : Int)  (h1 : op ≤ 0) (w : World) : Calls Try.prog 58 #[.int .i64 op] w fun e w' => e = .returned (frmV ⟨#[], 0, 0⟩) ∧ w = w' := by
  have q1 : (op == 1) = false := by simp; omega
  have q10 : (op == 10) = false := by simp; omega
  have q14 : (op == 14) = false := by simp; omega
  have q15 : (op == 15) = false := by simp; omega
  have q2 : (op == 2) = false := by simp; omega
  have q3 : (op == 3) = false := by simp; omega
  have q4 : (op == 4) = false := by simp; omega
  have q5 : (op == 5) = false := by simp; omega
  have q6 : (op == 6) = false := by simp; omega
  have q7 : (op == 7) = false := by simp; omega
  have q8 : (op == 8) = false := by simp; omega
  have q9 : (op == 9) = false := by simp; omega
  have q11 : (op == 11) = false := by simp; omega
  have q96 : (op == 96) = false := by simp; omega
  have q12 : (op == 12) = false := by simp; omega
  have q13 : (op == 13) = false := by simp; omega
  have q97 : (op == 97) = false := by simp; omega
  have g48 : ¬ 48 ≤ op := by omega
  have g16 : ¬ 16 ≤ op := by omega
  have g32 : ¬ 32 ≤ op := by omega
  have g64 : ¬ 64 ≤ op := by omega
  have g80 : ¬ 80 ≤ op := by omega
  have g88 : ¬ 88 ≤ op := by omega
  have l60 : op ≤ 60 := by omega
  have l31 : op ≤ 31 := by omega
  have l38 : op ≤ 38 := by omega
  have l79 : op ≤ 79 := by omega
  have l84 : op ≤ 84 := by omega
  have l90 : op ≤ 90 := by omega
  clear h1
  go_enter Try.func58, Try.ntmps58; go_wp2; go_ret3; exact ⟨rfl, rfl⟩
set_option maxHeartbeats 1000000 in
theorem frm24 (op : Int) (h0 : 39 ≤ op) (h1 : op ≤ 47) (w : World) : Calls Try.prog 58 #[.int .i64 op] w fun e w' => e = .returned (frmV ⟨#[], 0, 0⟩) ∧ w = w' := by
  have q1 : (op == 1) = false := by simp; omega
  have q10 : (op == 10) = false := by simp; omega
  have q14 : (op == 14) = false := by simp; omega
  have q15 : (op == 15) = false := by simp; omega
  have q2 : (op == 2) = false := by simp; omega
  have q3 : (op == 3) = false := by simp; omega
  have q4 : (op == 4) = false := by simp; omega
  have q5 : (op == 5) = false := by simp; omega
  have q6 : (op == 6) = false := by simp; omega
  have q7 : (op == 7) = false := by simp; omega
  have q8 : (op == 8) = false := by simp; omega
  have q9 : (op == 9) = false := by simp; omega
  have q11 : (op == 11) = false := by simp; omega
  have q96 : (op == 96) = false := by simp; omega
  have q12 : (op == 12) = false := by simp; omega
  have q13 : (op == 13) = false := by simp; omega
  have q97 : (op == 97) = false := by simp; omega
  have g48 : ¬ 48 ≤ op := by omega
  have g16 : 16 ≤ op := by omega
  have g32 : 32 ≤ op := by omega
  have g64 : ¬ 64 ≤ op := by omega
  have g80 : ¬ 80 ≤ op := by omega
  have g88 : ¬ 88 ≤ op := by omega
  have l60 : op ≤ 60 := by omega
  have l31 : ¬ op ≤ 31 := by omega
  have l38 : ¬ op ≤ 38 := by omega
  have l79 : op ≤ 79 := by omega
  have l84 : op ≤ 84 := by omega
  have l90 : op ≤ 90 := by omega
  clear h0
  clear h1
  go_enter Try.func58, Try.ntmps58; go_wp2; go_ret3; exact ⟨rfl, rfl⟩
set_option maxHeartbeats 1000000 in
theorem frm25 (op : Int) (h0 : 61 ≤ op) (h1 : op ≤ 63) (w : World) : Calls Try.prog 58 #[.int .i64 op] w fun e w' => e = .returned (frmV ⟨#[], 0, 0⟩) ∧ w = w' := by
  have q1 : (op == 1) = false := by simp; omega
  have q10 : (op == 10) = false := by simp; omega
  have q14 : (op == 14) = false := by simp; omega
  have q15 : (op == 15) = false := by simp; omega
  have q2 : (op == 2) = false := by simp; omega
  have q3 : (op == 3) = false := by simp; omega
  have q4 : (op == 4) = false := by simp; omega
  have q5 : (op == 5) = false := by simp; omega
  have q6 : (op == 6) = false := by simp; omega
  have q7 : (op == 7) = false := by simp; omega
  have q8 : (op == 8) = false := by simp; omega
  have q9 : (op == 9) = false := by simp; omega
  have q11 : (op == 11) = false := by simp; omega
  have q96 : (op == 96) = false := by simp; omega
  have q12 : (op == 12) = false := by simp; omega
  have q13 : (op == 13) = false := by simp; omega
  have q97 : (op == 97) = false := by simp; omega
  have g48 : 48 ≤ op := by omega
  have g16 : 16 ≤ op := by omega
  have g32 : 32 ≤ op := by omega
  have g64 : ¬ 64 ≤ op := by omega
  have g80 : ¬ 80 ≤ op := by omega
  have g88 : ¬ 88 ≤ op := by omega
  have l60 : ¬ op ≤ 60 := by omega
  have l31 : ¬ op ≤ 31 := by omega
  have l38 : ¬ op ≤ 38 := by omega
  have l79 : op ≤ 79 := by omega
  have l84 : op ≤ 84 := by omega
  have l90 : op ≤ 90 := by omega
  clear h0
  clear h1
  go_enter Try.func58, Try.ntmps58; go_wp2; go_ret3; exact ⟨rfl, rfl⟩
set_option maxHeartbeats 1000000 in
theorem frm26 (op : Int) (h0 : 85 ≤ op) (h1 : op ≤ 87) (w : World) : Calls Try.prog 58 #[.int .i64 op] w fun e w' => e = .returned (frmV ⟨#[], 0, 0⟩) ∧ w = w' := by
  have q1 : (op == 1) = false := by simp; omega
  have q10 : (op == 10) = false := by simp; omega
  have q14 : (op == 14) = false := by simp; omega
  have q15 : (op == 15) = false := by simp; omega
  have q2 : (op == 2) = false := by simp; omega
  have q3 : (op == 3) = false := by simp; omega
  have q4 : (op == 4) = false := by simp; omega
  have q5 : (op == 5) = false := by simp; omega
  have q6 : (op == 6) = false := by simp; omega
  have q7 : (op == 7) = false := by simp; omega
  have q8 : (op == 8) = false := by simp; omega
  have q9 : (op == 9) = false := by simp; omega
  have q11 : (op == 11) = false := by simp; omega
  have q96 : (op == 96) = false := by simp; omega
  have q12 : (op == 12) = false := by simp; omega
  have q13 : (op == 13) = false := by simp; omega
  have q97 : (op == 97) = false := by simp; omega
  have g48 : 48 ≤ op := by omega
  have g16 : 16 ≤ op := by omega
  have g32 : 32 ≤ op := by omega
  have g64 : 64 ≤ op := by omega
  have g80 : 80 ≤ op := by omega
  have g88 : ¬ 88 ≤ op := by omega
  have l60 : ¬ op ≤ 60 := by omega
  have l31 : ¬ op ≤ 31 := by omega
  have l38 : ¬ op ≤ 38 := by omega
  have l79 : ¬ op ≤ 79 := by omega
  have l84 : ¬ op ≤ 84 := by omega
  have l90 : op ≤ 90 := by omega
  clear h0
  clear h1
  go_enter Try.func58, Try.ntmps58; go_wp2; go_ret3; exact ⟨rfl, rfl⟩
set_option maxHeartbeats 1000000 in
theorem frm27 (op : Int) (h0 : 91 ≤ op) (h1 : op ≤ 95) (w : World) : Calls Try.prog 58 #[.int .i64 op] w fun e w' => e = .returned (frmV ⟨#[], 0, 0⟩) ∧ w = w' := by
  have q1 : (op == 1) = false := by simp; omega
  have q10 : (op == 10) = false := by simp; omega
  have q14 : (op == 14) = false := by simp; omega
  have q15 : (op == 15) = false := by simp; omega
  have q2 : (op == 2) = false := by simp; omega
  have q3 : (op == 3) = false := by simp; omega
  have q4 : (op == 4) = false := by simp; omega
  have q5 : (op == 5) = false := by simp; omega
  have q6 : (op == 6) = false := by simp; omega
  have q7 : (op == 7) = false := by simp; omega
  have q8 : (op == 8) = false := by simp; omega
  have q9 : (op == 9) = false := by simp; omega
  have q11 : (op == 11) = false := by simp; omega
  have q96 : (op == 96) = false := by simp; omega
  have q12 : (op == 12) = false := by simp; omega
  have q13 : (op == 13) = false := by simp; omega
  have q97 : (op == 97) = false := by simp; omega
  have g48 : 48 ≤ op := by omega
  have g16 : 16 ≤ op := by omega
  have g32 : 32 ≤ op := by omega
  have g64 : 64 ≤ op := by omega
  have g80 : 80 ≤ op := by omega
  have g88 : 88 ≤ op := by omega
  have l60 : ¬ op ≤ 60 := by omega
  have l31 : ¬ op ≤ 31 := by omega
  have l38 : ¬ op ≤ 38 := by omega
  have l79 : ¬ op ≤ 79 := by omega
  have l84 : ¬ op ≤ 84 := by omega
  have l90 : ¬ op ≤ 90 := by omega
  clear h0
  clear h1
  go_enter Try.func58, Try.ntmps58; go_wp2; go_ret3; exact ⟨rfl, rfl⟩
set_option maxHeartbeats 1000000 in
theorem frm28 (op : Int) (h0 : 98 ≤ op)  (w : World) : Calls Try.prog 58 #[.int .i64 op] w fun e w' => e = .returned (frmV ⟨#[], 0, 0⟩) ∧ w = w' := by
  have q1 : (op == 1) = false := by simp; omega
  have q10 : (op == 10) = false := by simp; omega
  have q14 : (op == 14) = false := by simp; omega
  have q15 : (op == 15) = false := by simp; omega
  have q2 : (op == 2) = false := by simp; omega
  have q3 : (op == 3) = false := by simp; omega
  have q4 : (op == 4) = false := by simp; omega
  have q5 : (op == 5) = false := by simp; omega
  have q6 : (op == 6) = false := by simp; omega
  have q7 : (op == 7) = false := by simp; omega
  have q8 : (op == 8) = false := by simp; omega
  have q9 : (op == 9) = false := by simp; omega
  have q11 : (op == 11) = false := by simp; omega
  have q96 : (op == 96) = false := by simp; omega
  have q12 : (op == 12) = false := by simp; omega
  have q13 : (op == 13) = false := by simp; omega
  have q97 : (op == 97) = false := by simp; omega
  have g48 : 48 ≤ op := by omega
  have g16 : 16 ≤ op := by omega
  have g32 : 32 ≤ op := by omega
  have g64 : 64 ≤ op := by omega
  have g80 : 80 ≤ op := by omega
  have g88 : 88 ≤ op := by omega
  have l60 : ¬ op ≤ 60 := by omega
  have l31 : ¬ op ≤ 31 := by omega
  have l38 : ¬ op ≤ 38 := by omega
  have l79 : ¬ op ≤ 79 := by omega
  have l84 : ¬ op ≤ 84 := by omega
  have l90 : ¬ op ≤ 90 := by omega
  clear h0
  go_enter Try.func58, Try.ntmps58; go_wp2; go_ret3; exact ⟨rfl, rfl⟩
theorem form_any (op : Int) (w : World) : Calls Try.prog 58 #[.int .i64 op] w fun e w' => e = .returned (frmV (fmR op)) ∧ w = w' := by
  rcases (by omega : op ≤ 0 ∨ op = 1 ∨ op = 2 ∨ op = 3 ∨ op = 4 ∨ op = 5 ∨ op = 6 ∨ op = 7 ∨ op = 8 ∨ op = 9 ∨ op = 10 ∨ op = 11 ∨ op = 12 ∨ op = 13 ∨ op = 14 ∨ op = 15 ∨ (16 ≤ op ∧ op ≤ 31) ∨ (32 ≤ op ∧ op ≤ 38) ∨ (39 ≤ op ∧ op ≤ 47) ∨ (48 ≤ op ∧ op ≤ 60) ∨ (61 ≤ op ∧ op ≤ 63) ∨ (64 ≤ op ∧ op ≤ 79) ∨ (80 ≤ op ∧ op ≤ 84) ∨ (85 ≤ op ∧ op ≤ 87) ∨ (88 ≤ op ∧ op ≤ 90) ∨ (91 ≤ op ∧ op ≤ 95) ∨ op = 96 ∨ op = 97 ∨ 98 ≤ op) with h | rfl | rfl | rfl | rfl | rfl | rfl | rfl | rfl | rfl | rfl | rfl | rfl | rfl | rfl | rfl | ⟨h, h1⟩ | ⟨h, h1⟩ | ⟨h, h1⟩ | ⟨h, h1⟩ | ⟨h, h1⟩ | ⟨h, h1⟩ | ⟨h, h1⟩ | ⟨h, h1⟩ | ⟨h, h1⟩ | ⟨h, h1⟩ | rfl | rfl | h
  · rw [show fmR op = ⟨#[], 0, 0⟩ from by unfold fmR; repeat (first | rw [if_pos (by omega)] | rw [if_neg (by omega)])]; exact frm23 op h w
  · exact frm0 w
  · exact frm1 w
  · exact frm2 w
  · exact frm3 w
  · exact frm4 w
  · exact frm5 w
  · exact frm6 w
  · exact frm7 w
  · exact frm8 w
  · exact frm9 w
  · exact frm10 w
  · exact frm11 w
  · exact frm12 w
  · exact frm13 w
  · exact frm14 w
  · rw [show fmR op = ⟨#[100, 97, 98], 0, 1⟩ from by unfold fmR; repeat (first | rw [if_pos (by omega)] | rw [if_neg (by omega)])]; exact frm15 op h h1 w
  · rw [show fmR op = ⟨#[100, 97], 0, 1⟩ from by unfold fmR; repeat (first | rw [if_pos (by omega)] | rw [if_neg (by omega)])]; exact frm16 op h h1 w
  · rw [show fmR op = ⟨#[], 0, 0⟩ from by unfold fmR; repeat (first | rw [if_pos (by omega)] | rw [if_neg (by omega)])]; exact frm24 op h h1 w
  · rw [show fmR op = ⟨#[100, 97, 98, 99], 0, 1⟩ from by unfold fmR; repeat (first | rw [if_pos (by omega)] | rw [if_neg (by omega)])]; exact frm17 op h h1 w
  · rw [show fmR op = ⟨#[], 0, 0⟩ from by unfold fmR; repeat (first | rw [if_pos (by omega)] | rw [if_neg (by omega)])]; exact frm25 op h h1 w
  · rw [show fmR op = ⟨#[100, 97], 0, 1⟩ from by unfold fmR; repeat (first | rw [if_pos (by omega)] | rw [if_neg (by omega)])]; exact frm18 op h h1 w
  · rw [show fmR op = ⟨#[100, 97, 110], 65, 2⟩ from by unfold fmR; repeat (first | rw [if_pos (by omega)] | rw [if_neg (by omega)])]; exact frm19 op h h1 w
  · rw [show fmR op = ⟨#[], 0, 0⟩ from by unfold fmR; repeat (first | rw [if_pos (by omega)] | rw [if_neg (by omega)])]; exact frm26 op h h1 w
  · rw [show fmR op = ⟨#[100, 97, 110], 65, 2⟩ from by unfold fmR; repeat (first | rw [if_pos (by omega)] | rw [if_neg (by omega)])]; exact frm20 op h h1 w
  · rw [show fmR op = ⟨#[], 0, 0⟩ from by unfold fmR; repeat (first | rw [if_pos (by omega)] | rw [if_neg (by omega)])]; exact frm27 op h h1 w
  · exact frm21 w
  · exact frm22 w
  · rw [show fmR op = ⟨#[], 0, 0⟩ from by unfold fmR; repeat (first | rw [if_pos (by omega)] | rw [if_neg (by omega)])]; exact frm28 op h w
end Go.Proofs.Ytocefkpnlgfebab.Ho
