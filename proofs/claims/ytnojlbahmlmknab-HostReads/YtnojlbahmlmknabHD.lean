import Derived.Test.YtnojlbahmlmknabHA
namespace Go.Proofs.Ytnojlbahmlmknab
open Go.RowKit
set_option maxRecDepth 100000
set_option linter.unusedVariables false
set_option linter.unusedSimpArgs false
/-- How many words a format has, by its fields. -/
inductive SzOf (h : Int) : Nat → Prop
  | three (a : (bits .and .u16 h 32 == 0) = false) : SzOf h 3
  | two (a : bits .and .u16 h 32 = 0) (b : (bits .and .u16 h 16 == 0) = false) : SzOf h 2
  | one (a : bits .and .u16 h 32 = 0) (b : bits .and .u16 h 16 = 0) : SzOf h 1
theorem size0_any (P n : Nat) (h : Int) (w : World) (hn : SzOf h n) (ch : w.cell? ⟨P, 3, none⟩ = some (.int .u16 h)) (lP : P < w.heap.size) :
    Calls Try.prog 91 #[.pointer (some ⟨P, 0, none⟩)] w fun e w' => e = .returned (.int .i64 n) ∧ w = w' := by
  rcases hn with a | ⟨a, b⟩ | ⟨a, b⟩
  · have a2 : (bits .and .u16 h 32 != 0) = true := by simp [bne, a]
    go_enter Try.func91, Try.ntmps91; go_wp2; go_ret; exact ⟨rfl, rfl⟩
  · have b2 : (bits .and .u16 h 16 != 0) = true := by simp [bne, b]
    go_enter Try.func91, Try.ntmps91; go_wp2; go_ret; exact ⟨rfl, rfl⟩
  · go_enter Try.func91, Try.ntmps91; go_wp2; go_ret; exact ⟨rfl, rfl⟩
theorem size8_any (P n : Nat) (h : Int) (w : World) (hn : SzOf h n) (ch : w.cell? ⟨P, 11, none⟩ = some (.int .u16 h)) (lP : P < w.heap.size) :
    Calls Try.prog 91 #[.pointer (some ⟨P, 8, none⟩)] w fun e w' => e = .returned (.int .i64 n) ∧ w = w' := by
  rcases hn with a | ⟨a, b⟩ | ⟨a, b⟩
  · have a2 : (bits .and .u16 h 32 != 0) = true := by simp [bne, a]
    go_enter Try.func91, Try.ntmps91; go_wp2; go_ret; exact ⟨rfl, rfl⟩
  · have b2 : (bits .and .u16 h 16 != 0) = true := by simp [bne, b]
    go_enter Try.func91, Try.ntmps91; go_wp2; go_ret; exact ⟨rfl, rfl⟩
  · go_enter Try.func91, Try.ntmps91; go_wp2; go_ret; exact ⟨rfl, rfl⟩
def alB (st : Bool) (d nn m : Int) : Bool := decide (nn ≤ m) && (!st || (decide (1 ≤ d) && decide (d ≤ 7)))
set_option maxHeartbeats 1000000 in
theorem al_y_no (I : Nat) (h d nn m : Int) (w : World) (c1 : w.cell? ⟨I, 1, none⟩ = some (.int .i64 d)) (c5 : w.cell? ⟨I, 5, none⟩ = some (.int .i64 nn)) (c11 : w.cell? ⟨I, 11, none⟩ = some (.int .u16 h)) (c12 : w.cell? ⟨I, 12, none⟩ = some (.int .u16 m)) (lI : I < w.heap.size) (m0 : 0 ≤ m) (m1 : m ≤ 65535) (g1 : 1 ≤ d) (g2 : d ≤ 7) (q1 : decide (nn ≤ m) = false) :
    Calls Try.prog 93 #[.pointer (some ⟨I, 8, none⟩), .pointer (some ⟨I, 0, none⟩)] w fun e w' => e = .returned (.bool false) ∧ ∃ n, w' = w.drewN n := by
  go_enter Try.func93, Try.ntmps93
  go_upto_region 2 with fail
  go_quiet (fail)
  go_wp2
  go_ret
  exact ⟨rfl, _, rfl⟩
set_option maxHeartbeats 1000000 in
theorem al_y_free (I : Nat) (h d nn m : Int) (w : World) (c1 : w.cell? ⟨I, 1, none⟩ = some (.int .i64 d)) (c5 : w.cell? ⟨I, 5, none⟩ = some (.int .i64 nn)) (c11 : w.cell? ⟨I, 11, none⟩ = some (.int .u16 h)) (c12 : w.cell? ⟨I, 12, none⟩ = some (.int .u16 m)) (lI : I < w.heap.size) (m0 : 0 ≤ m) (m1 : m ≤ 65535) (g1 : 1 ≤ d) (g2 : d ≤ 7) (q1 : decide (nn ≤ m) = true) (hst : (bits .and .u16 h 256 == 0) = true) :
    Calls Try.prog 93 #[.pointer (some ⟨I, 8, none⟩), .pointer (some ⟨I, 0, none⟩)] w fun e w' => e = .returned (.bool true) ∧ ∃ n, w' = w.drewN n := by
  go_enter Try.func93, Try.ntmps93
  go_upto_region 2 with fail
  go_quiet (fail)
  go_wp2
  go_ret
  exact ⟨rfl, _, rfl⟩
set_option maxHeartbeats 1000000 in
theorem al_y_st (I : Nat) (h d nn m : Int) (w : World) (c1 : w.cell? ⟨I, 1, none⟩ = some (.int .i64 d)) (c5 : w.cell? ⟨I, 5, none⟩ = some (.int .i64 nn)) (c11 : w.cell? ⟨I, 11, none⟩ = some (.int .u16 h)) (c12 : w.cell? ⟨I, 12, none⟩ = some (.int .u16 m)) (lI : I < w.heap.size) (m0 : 0 ≤ m) (m1 : m ≤ 65535) (g1 : 1 ≤ d) (g2 : d ≤ 7) (q1 : decide (nn ≤ m) = true) (hst : (bits .and .u16 h 256 == 0) = false) :
    Calls Try.prog 93 #[.pointer (some ⟨I, 8, none⟩), .pointer (some ⟨I, 0, none⟩)] w fun e w' => e = .returned (.bool true) ∧ ∃ n, w' = w.drewN n := by
  go_enter Try.func93, Try.ntmps93
  go_upto_region 2 with fail
  go_quiet (fail)
  go_wp2
  go_ret
  exact ⟨rfl, _, rfl⟩
set_option maxHeartbeats 1000000 in
theorem al_lo_no (I : Nat) (h d nn m : Int) (w : World) (c1 : w.cell? ⟨I, 1, none⟩ = some (.int .i64 d)) (c5 : w.cell? ⟨I, 5, none⟩ = some (.int .i64 nn)) (c11 : w.cell? ⟨I, 11, none⟩ = some (.int .u16 h)) (c12 : w.cell? ⟨I, 12, none⟩ = some (.int .u16 m)) (lI : I < w.heap.size) (m0 : 0 ≤ m) (m1 : m ≤ 65535) (g1 : ¬ 1 ≤ d) (q1 : decide (nn ≤ m) = false) :
    Calls Try.prog 93 #[.pointer (some ⟨I, 8, none⟩), .pointer (some ⟨I, 0, none⟩)] w fun e w' => e = .returned (.bool false) ∧ ∃ n, w' = w.drewN n := by
  go_enter Try.func93, Try.ntmps93
  go_upto_region 2 with fail
  go_quiet (fail)
  go_wp2
  go_ret
  exact ⟨rfl, _, rfl⟩
set_option maxHeartbeats 1000000 in
theorem al_lo_free (I : Nat) (h d nn m : Int) (w : World) (c1 : w.cell? ⟨I, 1, none⟩ = some (.int .i64 d)) (c5 : w.cell? ⟨I, 5, none⟩ = some (.int .i64 nn)) (c11 : w.cell? ⟨I, 11, none⟩ = some (.int .u16 h)) (c12 : w.cell? ⟨I, 12, none⟩ = some (.int .u16 m)) (lI : I < w.heap.size) (m0 : 0 ≤ m) (m1 : m ≤ 65535) (g1 : ¬ 1 ≤ d) (q1 : decide (nn ≤ m) = true) (hst : (bits .and .u16 h 256 == 0) = true) :
    Calls Try.prog 93 #[.pointer (some ⟨I, 8, none⟩), .pointer (some ⟨I, 0, none⟩)] w fun e w' => e = .returned (.bool true) ∧ ∃ n, w' = w.drewN n := by
  go_enter Try.func93, Try.ntmps93
  go_upto_region 2 with fail
  go_quiet (fail)
  go_wp2
  go_ret
  exact ⟨rfl, _, rfl⟩
set_option maxHeartbeats 1000000 in
theorem al_lo_st (I : Nat) (h d nn m : Int) (w : World) (c1 : w.cell? ⟨I, 1, none⟩ = some (.int .i64 d)) (c5 : w.cell? ⟨I, 5, none⟩ = some (.int .i64 nn)) (c11 : w.cell? ⟨I, 11, none⟩ = some (.int .u16 h)) (c12 : w.cell? ⟨I, 12, none⟩ = some (.int .u16 m)) (lI : I < w.heap.size) (m0 : 0 ≤ m) (m1 : m ≤ 65535) (g1 : ¬ 1 ≤ d) (q1 : decide (nn ≤ m) = true) (hst : (bits .and .u16 h 256 == 0) = false) :
    Calls Try.prog 93 #[.pointer (some ⟨I, 8, none⟩), .pointer (some ⟨I, 0, none⟩)] w fun e w' => e = .returned (.bool false) ∧ ∃ n, w' = w.drewN n := by
  go_enter Try.func93, Try.ntmps93
  go_upto_region 2 with fail
  go_quiet (fail)
  go_wp2
  go_ret
  exact ⟨rfl, _, rfl⟩
set_option maxHeartbeats 1000000 in
theorem al_hi_no (I : Nat) (h d nn m : Int) (w : World) (c1 : w.cell? ⟨I, 1, none⟩ = some (.int .i64 d)) (c5 : w.cell? ⟨I, 5, none⟩ = some (.int .i64 nn)) (c11 : w.cell? ⟨I, 11, none⟩ = some (.int .u16 h)) (c12 : w.cell? ⟨I, 12, none⟩ = some (.int .u16 m)) (lI : I < w.heap.size) (m0 : 0 ≤ m) (m1 : m ≤ 65535) (g1 : 1 ≤ d) (g2 : ¬ d ≤ 7) (q1 : decide (nn ≤ m) = false) :
    Calls Try.prog 93 #[.pointer (some ⟨I, 8, none⟩), .pointer (some ⟨I, 0, none⟩)] w fun e w' => e = .returned (.bool false) ∧ ∃ n, w' = w.drewN n := by
  go_enter Try.func93, Try.ntmps93
  go_upto_region 2 with fail
  go_quiet (fail)
  go_wp2
  go_ret
  exact ⟨rfl, _, rfl⟩
set_option maxHeartbeats 1000000 in
theorem al_hi_free (I : Nat) (h d nn m : Int) (w : World) (c1 : w.cell? ⟨I, 1, none⟩ = some (.int .i64 d)) (c5 : w.cell? ⟨I, 5, none⟩ = some (.int .i64 nn)) (c11 : w.cell? ⟨I, 11, none⟩ = some (.int .u16 h)) (c12 : w.cell? ⟨I, 12, none⟩ = some (.int .u16 m)) (lI : I < w.heap.size) (m0 : 0 ≤ m) (m1 : m ≤ 65535) (g1 : 1 ≤ d) (g2 : ¬ d ≤ 7) (q1 : decide (nn ≤ m) = true) (hst : (bits .and .u16 h 256 == 0) = true) :
    Calls Try.prog 93 #[.pointer (some ⟨I, 8, none⟩), .pointer (some ⟨I, 0, none⟩)] w fun e w' => e = .returned (.bool true) ∧ ∃ n, w' = w.drewN n := by
  go_enter Try.func93, Try.ntmps93
  go_upto_region 2 with fail
  go_quiet (fail)
  go_wp2
  go_ret
  exact ⟨rfl, _, rfl⟩
set_option maxHeartbeats 1000000 in
theorem al_hi_st (I : Nat) (h d nn m : Int) (w : World) (c1 : w.cell? ⟨I, 1, none⟩ = some (.int .i64 d)) (c5 : w.cell? ⟨I, 5, none⟩ = some (.int .i64 nn)) (c11 : w.cell? ⟨I, 11, none⟩ = some (.int .u16 h)) (c12 : w.cell? ⟨I, 12, none⟩ = some (.int .u16 m)) (lI : I < w.heap.size) (m0 : 0 ≤ m) (m1 : m ≤ 65535) (g1 : 1 ≤ d) (g2 : ¬ d ≤ 7) (q1 : decide (nn ≤ m) = true) (hst : (bits .and .u16 h 256 == 0) = false) :
    Calls Try.prog 93 #[.pointer (some ⟨I, 8, none⟩), .pointer (some ⟨I, 0, none⟩)] w fun e w' => e = .returned (.bool false) ∧ ∃ n, w' = w.drewN n := by
  go_enter Try.func93, Try.ntmps93
  go_upto_region 2 with fail
  go_quiet (fail)
  go_wp2
  go_ret
  exact ⟨rfl, _, rfl⟩
theorem allows_any (I : Nat) (h d nn m : Int) (st : Bool) (w : World) (hs : bits .and .u16 h 256 = 0 ↔ st = false) (c1 : w.cell? ⟨I, 1, none⟩ = some (.int .i64 d)) (c5 : w.cell? ⟨I, 5, none⟩ = some (.int .i64 nn)) (c11 : w.cell? ⟨I, 11, none⟩ = some (.int .u16 h)) (c12 : w.cell? ⟨I, 12, none⟩ = some (.int .u16 m)) (lI : I < w.heap.size) (m0 : 0 ≤ m) (m1 : m ≤ 65535) :
    Calls Try.prog 93 #[.pointer (some ⟨I, 8, none⟩), .pointer (some ⟨I, 0, none⟩)] w fun e w' => e = .returned (.bool (alB st d nn m)) ∧ ∃ n, w' = w.drewN n := by
  have hst : (bits .and .u16 h 256 == 0) = !st := by
    cases st with
    | false => rw [hs.2 rfl]; rfl
    | true =>
      cases hh : (bits .and .u16 h 256 == 0) with
      | false => rfl
      | true => exact absurd (hs.1 (by simpa using hh)) (by simp)
  by_cases g3 : nn ≤ m
  · have q1 : decide (nn ≤ m) = true := decide_eq_true g3
    cases st
    · rw [show alB false d nn m = true from by simp [alB, g3]]
      by_cases g1 : 1 ≤ d
      · by_cases g2 : d ≤ 7
        · exact al_y_free I h d nn m w c1 c5 c11 c12 lI m0 m1 g1 g2 q1 hst
        · exact al_hi_free I h d nn m w c1 c5 c11 c12 lI m0 m1 g1 g2 q1 hst
      · exact al_lo_free I h d nn m w c1 c5 c11 c12 lI m0 m1 g1 q1 hst
    · by_cases g1 : 1 ≤ d
      · by_cases g2 : d ≤ 7
        · rw [show alB true d nn m = true from by simp [alB, g1, g2, g3]]
          exact al_y_st I h d nn m w c1 c5 c11 c12 lI m0 m1 g1 g2 q1 hst
        · rw [show alB true d nn m = false from by simp [alB, g2]]
          exact al_hi_st I h d nn m w c1 c5 c11 c12 lI m0 m1 g1 g2 q1 hst
      · rw [show alB true d nn m = false from by simp [alB, g1]]
        exact al_lo_st I h d nn m w c1 c5 c11 c12 lI m0 m1 g1 q1 hst
  · have q1 : decide (nn ≤ m) = false := decide_eq_false g3
    rw [show alB st d nn m = false from by simp [alB, g3]]
    by_cases g1 : 1 ≤ d
    · by_cases g2 : d ≤ 7
      · exact al_y_no I h d nn m w c1 c5 c11 c12 lI m0 m1 g1 g2 q1
      · exact al_hi_no I h d nn m w c1 c5 c11 c12 lI m0 m1 g1 g2 q1
    · exact al_lo_no I h d nn m w c1 c5 c11 c12 lI m0 m1 g1 q1
end Go.Proofs.Ytnojlbahmlmknab
