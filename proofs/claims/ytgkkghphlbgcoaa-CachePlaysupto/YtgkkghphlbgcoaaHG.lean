import Derived.Test.YtgkkghphlbgcoaaHA
import Derived.Test.YtgkkghphlbgcoaaHF
import Derived.Test.YtgkkghphlbgcoaaHC
namespace Go.Proofs.Ytgkkghphlbgcoaa.Ho
open Go.RowKit
set_option maxRecDepth 100000
set_option linter.unusedVariables false
set_option linter.unusedSimpArgs false
/-- How many words a format has, by its fields. -/
inductive SzOf (h : Int) : Nat → Prop
  | three (a : (bits .and .u16 h 32 == 0) = false) : SzOf h 3
  | two (a : bits .and .u16 h 32 = 0) (b : (bits .and .u16 h 16 == 0) = false) : SzOf h 2
  | one (a : bits .and .u16 h 32 = 0) (b : bits .and .u16 h 16 = 0) : SzOf h 1
theorem size0_any (P n : Nat) (h : Int) (w : World) (hn : SzOf h n) (ch : w.cell? ⟨P, 3, none⟩ = some (.int .u16 h)) (lP : P < w.heap.size) :
    Calls Try.prog 71 #[.pointer (some ⟨P, 0, none⟩)] w fun e w' => e = .returned (.int .i64 n) ∧ w = w' := by
  rcases hn with a | ⟨a, b⟩ | ⟨a, b⟩
  · have a2 : (bits .and .u16 h 32 != 0) = true := by simp [bne, a]
    go_enter Try.func71, Try.ntmps71; go_wp2; go_ret; exact ⟨rfl, rfl⟩
  · have b2 : (bits .and .u16 h 16 != 0) = true := by simp [bne, b]
    go_enter Try.func71, Try.ntmps71; go_wp2; go_ret; exact ⟨rfl, rfl⟩
  · go_enter Try.func71, Try.ntmps71; go_wp2; go_ret; exact ⟨rfl, rfl⟩
theorem size8_any (P n : Nat) (h : Int) (w : World) (hn : SzOf h n) (ch : w.cell? ⟨P, 11, none⟩ = some (.int .u16 h)) (lP : P < w.heap.size) :
    Calls Try.prog 71 #[.pointer (some ⟨P, 8, none⟩)] w fun e w' => e = .returned (.int .i64 n) ∧ w = w' := by
  rcases hn with a | ⟨a, b⟩ | ⟨a, b⟩
  · have a2 : (bits .and .u16 h 32 != 0) = true := by simp [bne, a]
    go_enter Try.func71, Try.ntmps71; go_wp2; go_ret; exact ⟨rfl, rfl⟩
  · have b2 : (bits .and .u16 h 16 != 0) = true := by simp [bne, b]
    go_enter Try.func71, Try.ntmps71; go_wp2; go_ret; exact ⟨rfl, rfl⟩
  · go_enter Try.func71, Try.ntmps71; go_wp2; go_ret; exact ⟨rfl, rfl⟩
def alB (st : Bool) (d nn m : Int) : Bool := decide (nn ≤ m) && (!st || (decide (1 ≤ d) && decide (d ≤ 7)))
set_option maxHeartbeats 1000000 in
theorem al_y_no (I : Nat) (h d nn m : Int) (w : World) (c1 : w.cell? ⟨I, 1, none⟩ = some (.int .i64 d)) (c5 : w.cell? ⟨I, 5, none⟩ = some (.int .i64 nn)) (c11 : w.cell? ⟨I, 11, none⟩ = some (.int .u16 h)) (c12 : w.cell? ⟨I, 12, none⟩ = some (.int .u16 m)) (lI : I < w.heap.size) (m0 : 0 ≤ m) (m1 : m ≤ 65535) (g1 : 1 ≤ d) (g2 : d ≤ 7) (q1 : decide (nn ≤ m) = false) :
    Calls Try.prog 73 #[.pointer (some ⟨I, 8, none⟩), .pointer (some ⟨I, 0, none⟩)] w fun e w' => e = .returned (.bool false) ∧ ∃ n, w' = w.drewN n := by
  go_enter Try.func73, Try.ntmps73
  go_upto_region 2 with fail
  go_quiet (fail)
  go_wp2
  go_ret
  exact ⟨rfl, _, rfl⟩
set_option maxHeartbeats 1000000 in
theorem al_y_free (I : Nat) (h d nn m : Int) (w : World) (c1 : w.cell? ⟨I, 1, none⟩ = some (.int .i64 d)) (c5 : w.cell? ⟨I, 5, none⟩ = some (.int .i64 nn)) (c11 : w.cell? ⟨I, 11, none⟩ = some (.int .u16 h)) (c12 : w.cell? ⟨I, 12, none⟩ = some (.int .u16 m)) (lI : I < w.heap.size) (m0 : 0 ≤ m) (m1 : m ≤ 65535) (g1 : 1 ≤ d) (g2 : d ≤ 7) (q1 : decide (nn ≤ m) = true) (hst : (bits .and .u16 h 256 == 0) = true) :
    Calls Try.prog 73 #[.pointer (some ⟨I, 8, none⟩), .pointer (some ⟨I, 0, none⟩)] w fun e w' => e = .returned (.bool true) ∧ ∃ n, w' = w.drewN n := by
  go_enter Try.func73, Try.ntmps73
  go_upto_region 2 with fail
  go_quiet (fail)
  go_wp2
  go_ret
  exact ⟨rfl, _, rfl⟩
set_option maxHeartbeats 1000000 in
theorem al_y_st (I : Nat) (h d nn m : Int) (w : World) (c1 : w.cell? ⟨I, 1, none⟩ = some (.int .i64 d)) (c5 : w.cell? ⟨I, 5, none⟩ = some (.int .i64 nn)) (c11 : w.cell? ⟨I, 11, none⟩ = some (.int .u16 h)) (c12 : w.cell? ⟨I, 12, none⟩ = some (.int .u16 m)) (lI : I < w.heap.size) (m0 : 0 ≤ m) (m1 : m ≤ 65535) (g1 : 1 ≤ d) (g2 : d ≤ 7) (q1 : decide (nn ≤ m) = true) (hst : (bits .and .u16 h 256 == 0) = false) :
    Calls Try.prog 73 #[.pointer (some ⟨I, 8, none⟩), .pointer (some ⟨I, 0, none⟩)] w fun e w' => e = .returned (.bool true) ∧ ∃ n, w' = w.drewN n := by
  go_enter Try.func73, Try.ntmps73
  go_upto_region 2 with fail
  go_quiet (fail)
  go_wp2
  go_ret
  exact ⟨rfl, _, rfl⟩
set_option maxHeartbeats 1000000 in
theorem al_lo_no (I : Nat) (h d nn m : Int) (w : World) (c1 : w.cell? ⟨I, 1, none⟩ = some (.int .i64 d)) (c5 : w.cell? ⟨I, 5, none⟩ = some (.int .i64 nn)) (c11 : w.cell? ⟨I, 11, none⟩ = some (.int .u16 h)) (c12 : w.cell? ⟨I, 12, none⟩ = some (.int .u16 m)) (lI : I < w.heap.size) (m0 : 0 ≤ m) (m1 : m ≤ 65535) (g1 : ¬ 1 ≤ d) (q1 : decide (nn ≤ m) = false) :
    Calls Try.prog 73 #[.pointer (some ⟨I, 8, none⟩), .pointer (some ⟨I, 0, none⟩)] w fun e w' => e = .returned (.bool false) ∧ ∃ n, w' = w.drewN n := by
  go_enter Try.func73, Try.ntmps73
  go_upto_region 2 with fail
  go_quiet (fail)
  go_wp2
  go_ret
  exact ⟨rfl, _, rfl⟩
set_option maxHeartbeats 1000000 in
theorem al_lo_free (I : Nat) (h d nn m : Int) (w : World) (c1 : w.cell? ⟨I, 1, none⟩ = some (.int .i64 d)) (c5 : w.cell? ⟨I, 5, none⟩ = some (.int .i64 nn)) (c11 : w.cell? ⟨I, 11, none⟩ = some (.int .u16 h)) (c12 : w.cell? ⟨I, 12, none⟩ = some (.int .u16 m)) (lI : I < w.heap.size) (m0 : 0 ≤ m) (m1 : m ≤ 65535) (g1 : ¬ 1 ≤ d) (q1 : decide (nn ≤ m) = true) (hst : (bits .and .u16 h 256 == 0) = true) :
    Calls Try.prog 73 #[.pointer (some ⟨I, 8, none⟩), .pointer (some ⟨I, 0, none⟩)] w fun e w' => e = .returned (.bool true) ∧ ∃ n, w' = w.drewN n := by
  go_enter Try.func73, Try.ntmps73
  go_upto_region 2 with fail
  go_quiet (fail)
  go_wp2
  go_ret
  exact ⟨rfl, _, rfl⟩
set_option maxHeartbeats 1000000 in
theorem al_lo_st (I : Nat) (h d nn m : Int) (w : World) (c1 : w.cell? ⟨I, 1, none⟩ = some (.int .i64 d)) (c5 : w.cell? ⟨I, 5, none⟩ = some (.int .i64 nn)) (c11 : w.cell? ⟨I, 11, none⟩ = some (.int .u16 h)) (c12 : w.cell? ⟨I, 12, none⟩ = some (.int .u16 m)) (lI : I < w.heap.size) (m0 : 0 ≤ m) (m1 : m ≤ 65535) (g1 : ¬ 1 ≤ d) (q1 : decide (nn ≤ m) = true) (hst : (bits .and .u16 h 256 == 0) = false) :
    Calls Try.prog 73 #[.pointer (some ⟨I, 8, none⟩), .pointer (some ⟨I, 0, none⟩)] w fun e w' => e = .returned (.bool false) ∧ ∃ n, w' = w.drewN n := by
  go_enter Try.func73, Try.ntmps73
  go_upto_region 2 with fail
  go_quiet (fail)
  go_wp2
  go_ret
  exact ⟨rfl, _, rfl⟩
set_option maxHeartbeats 1000000 in
theorem al_hi_no (I : Nat) (h d nn m : Int) (w : World) (c1 : w.cell? ⟨I, 1, none⟩ = some (.int .i64 d)) (c5 : w.cell? ⟨I, 5, none⟩ = some (.int .i64 nn)) (c11 : w.cell? ⟨I, 11, none⟩ = some (.int .u16 h)) (c12 : w.cell? ⟨I, 12, none⟩ = some (.int .u16 m)) (lI : I < w.heap.size) (m0 : 0 ≤ m) (m1 : m ≤ 65535) (g1 : 1 ≤ d) (g2 : ¬ d ≤ 7) (q1 : decide (nn ≤ m) = false) :
    Calls Try.prog 73 #[.pointer (some ⟨I, 8, none⟩), .pointer (some ⟨I, 0, none⟩)] w fun e w' => e = .returned (.bool false) ∧ ∃ n, w' = w.drewN n := by
  go_enter Try.func73, Try.ntmps73
  go_upto_region 2 with fail
  go_quiet (fail)
  go_wp2
  go_ret
  exact ⟨rfl, _, rfl⟩
set_option maxHeartbeats 1000000 in
theorem al_hi_free (I : Nat) (h d nn m : Int) (w : World) (c1 : w.cell? ⟨I, 1, none⟩ = some (.int .i64 d)) (c5 : w.cell? ⟨I, 5, none⟩ = some (.int .i64 nn)) (c11 : w.cell? ⟨I, 11, none⟩ = some (.int .u16 h)) (c12 : w.cell? ⟨I, 12, none⟩ = some (.int .u16 m)) (lI : I < w.heap.size) (m0 : 0 ≤ m) (m1 : m ≤ 65535) (g1 : 1 ≤ d) (g2 : ¬ d ≤ 7) (q1 : decide (nn ≤ m) = true) (hst : (bits .and .u16 h 256 == 0) = true) :
    Calls Try.prog 73 #[.pointer (some ⟨I, 8, none⟩), .pointer (some ⟨I, 0, none⟩)] w fun e w' => e = .returned (.bool true) ∧ ∃ n, w' = w.drewN n := by
  go_enter Try.func73, Try.ntmps73
  go_upto_region 2 with fail
  go_quiet (fail)
  go_wp2
  go_ret
  exact ⟨rfl, _, rfl⟩
set_option maxHeartbeats 1000000 in
theorem al_hi_st (I : Nat) (h d nn m : Int) (w : World) (c1 : w.cell? ⟨I, 1, none⟩ = some (.int .i64 d)) (c5 : w.cell? ⟨I, 5, none⟩ = some (.int .i64 nn)) (c11 : w.cell? ⟨I, 11, none⟩ = some (.int .u16 h)) (c12 : w.cell? ⟨I, 12, none⟩ = some (.int .u16 m)) (lI : I < w.heap.size) (m0 : 0 ≤ m) (m1 : m ≤ 65535) (g1 : 1 ≤ d) (g2 : ¬ d ≤ 7) (q1 : decide (nn ≤ m) = true) (hst : (bits .and .u16 h 256 == 0) = false) :
    Calls Try.prog 73 #[.pointer (some ⟨I, 8, none⟩), .pointer (some ⟨I, 0, none⟩)] w fun e w' => e = .returned (.bool false) ∧ ∃ n, w' = w.drewN n := by
  go_enter Try.func73, Try.ntmps73
  go_upto_region 2 with fail
  go_quiet (fail)
  go_wp2
  go_ret
  exact ⟨rfl, _, rfl⟩
theorem allows_any (I : Nat) (h d nn m : Int) (st : Bool) (w : World) (hs : bits .and .u16 h 256 = 0 ↔ st = false) (c1 : w.cell? ⟨I, 1, none⟩ = some (.int .i64 d)) (c5 : w.cell? ⟨I, 5, none⟩ = some (.int .i64 nn)) (c11 : w.cell? ⟨I, 11, none⟩ = some (.int .u16 h)) (c12 : w.cell? ⟨I, 12, none⟩ = some (.int .u16 m)) (lI : I < w.heap.size) (m0 : 0 ≤ m) (m1 : m ≤ 65535) :
    Calls Try.prog 73 #[.pointer (some ⟨I, 8, none⟩), .pointer (some ⟨I, 0, none⟩)] w fun e w' => e = .returned (.bool (alB st d nn m)) ∧ ∃ n, w' = w.drewN n := by
  have hst : (bits .and .u16 h 256 == 0) = !st := by
    cases st with
    | false => rw [hs.2 rfl]; rfl
    | true =>
      cases hh : (bits .and .u16 h 256 == 0) with
      | false => rfl
      | true => exact absurd (hs.1 (by simpa using hh)) (by simp)
  by_cases g3 : nn ≤ m
  · have q1 : decide (nn ≤ m) = true := decide_eq_true g3
    cases st
    · rw [show alB false d nn m = true from by simp [alB, g3]]
      by_cases g1 : 1 ≤ d
      · by_cases g2 : d ≤ 7
        · exact al_y_free I h d nn m w c1 c5 c11 c12 lI m0 m1 g1 g2 q1 hst
        · exact al_hi_free I h d nn m w c1 c5 c11 c12 lI m0 m1 g1 g2 q1 hst
      · exact al_lo_free I h d nn m w c1 c5 c11 c12 lI m0 m1 g1 q1 hst
    · by_cases g1 : 1 ≤ d
      · by_cases g2 : d ≤ 7
        · rw [show alB true d nn m = true from by simp [alB, g1, g2, g3]]
          exact al_y_st I h d nn m w c1 c5 c11 c12 lI m0 m1 g1 g2 q1 hst
        · rw [show alB true d nn m = false from by simp [alB, g2]]
          exact al_hi_st I h d nn m w c1 c5 c11 c12 lI m0 m1 g1 g2 q1 hst
      · rw [show alB true d nn m = false from by simp [alB, g1]]
        exact al_lo_st I h d nn m w c1 c5 c11 c12 lI m0 m1 g1 q1 hst
  · have q1 : decide (nn ≤ m) = false := decide_eq_false g3
    rw [show alB st d nn m = false from by simp [alB, g3]]
    by_cases g1 : 1 ≤ d
    · by_cases g2 : d ≤ 7
      · exact al_y_no I h d nn m w c1 c5 c11 c12 lI m0 m1 g1 g2 q1
      · exact al_hi_no I h d nn m w c1 c5 c11 c12 lI m0 m1 g1 g2 q1
    · exact al_lo_no I h d nn m w c1 c5 c11 c12 lI m0 m1 g1 q1
end Go.Proofs.Ytgkkghphlbgcoaa.Ho
namespace Go.Proofs.Ytgkkghphlbgcoaa.Ho
open Go.RowKit
set_option maxRecDepth 100000
set_option linter.unusedVariables false
set_option linter.unusedSimpArgs false
def szN (h : Int) : Nat := if hb h 32 then 3 else if hb h 16 then 2 else 1
theorem szOf (h : Int) : SzOf h (szN h) := by
  unfold szN
  by_cases a : hb h 32 = true
  · rw [if_pos a]; exact .three (by simpa [hb] using a)
  · rw [if_neg a]
    have a' := (hb_iff h 32).2 (by simpa using a)
    by_cases c : hb h 16 = true
    · rw [if_pos c]; exact .two a' (by simpa [hb] using c)
    · rw [if_neg c]; exact .one a' ((hb_iff h 16).2 (by simpa using c))
def foOf (k : Nat) : Fo := ⟨tg k 0, tg k 1, tg k 2, tg k 3, tg k 4⟩
theorem foOf_most (k : Nat) (h : k < 23) : 0 ≤ (foOf k).most ∧ (foOf k).most ≤ 65535 := by
  rcases (by omega : k = 0 ∨ k = 1 ∨ k = 2 ∨ k = 3 ∨ k = 4 ∨ k = 5 ∨ k = 6 ∨ k = 7 ∨ k = 8 ∨ k = 9 ∨ k = 10 ∨ k = 11 ∨ k = 12 ∨ k = 13 ∨ k = 14 ∨ k = 15 ∨ k = 16 ∨ k = 17 ∨ k = 18 ∨ k = 19 ∨ k = 20 ∨ k = 21 ∨ k = 22) with rfl | rfl | rfl | rfl | rfl | rfl | rfl | rfl | rfl | rfl | rfl | rfl | rfl | rfl | rfl | rfl | rfl | rfl | rfl | rfl | rfl | rfl | rfl <;> decide
theorem hit_lt {op : Int} {k : Nat} (h : hit op = some k) : k < 23 := by
  unfold hit at h
  have := List.mem_of_find?_eq_some h
  simpa using this
theorem dec_arg (P : Value) (a : Option Addr) (len cap : Nat) (at' : Int) (w : World) (hl : len ≤ 9223372036854775807) (h : at' < 0 ∨ (len : Int) < at') :
    Calls Try.prog 64 #[P, .slice a len cap, .int .i64 at'] w fun e w' => e = .returned (.int .i64 4) ∧ w = w' := by
  rcases h with h | h
  · go_enter Try.func64, Try.ntmps64; go_wp2; go_ret; exact ⟨rfl, rfl⟩
  · by_cases h0 : at' < 0
    · go_enter Try.func64, Try.ntmps64; go_wp2; go_ret; exact ⟨rfl, rfl⟩
    · go_enter Try.func64, Try.ntmps64; go_wp2; go_ret; exact ⟨rfl, rfl⟩
theorem dec_end (P : Value) (a : Option Addr) (len cap : Nat) (w : World) (hl : len ≤ 9223372036854775807) :
    Calls Try.prog 64 #[P, .slice a len cap, .int .i64 len] w fun e w' => e = .returned (.int .i64 1) ∧ w = w' := by
  have q1 : decide ((len : Int) < 0) = false := decide_eq_false (by omega)
  have q2 : decide ((len : Int) < len) = false := decide_eq_false (by omega)
  go_enter Try.func64, Try.ntmps64; go_wp2; go_ret; exact ⟨rfl, rfl⟩
theorem first_below {w w1 : World} (h : Below w.drew.heap.size w.drew w1) : Below w.heap.size w w1 := ((Below.refl w.heap.size w).drew).trans h
/-- decode has found its format. -/
structure DE (w wx : World) (I BF : Nat) (A : Array Value) (f : Fo) : Prop where
  b : wx.heap[I]? = some (.cells A 119)
  bf : wx.heap[BF]? = some (.cells (foA f) 117)
  ne : BF ≠ I
  ge : w.heap.size ≤ BF
  ch : Chg [I] w wx
theorem de_pre {w w1 : World} {I : Nat} {A : Array Value} (f : Fo) (hI : w.heap[I]? = some (.cells A 119)) (hb : Below (w.alloc (.cells #[.int .u8 0, .int .u8 0, .int .u8 0, .int .u16 0, .int .u16 0] 117)).heap.size (w.alloc (.cells #[.int .u8 0, .int .u8 0, .int .u8 0, .int .u16 0, .int .u16 0] 117)) w1) :
    DE w (((((w1.setCell ⟨w.heap.size, 0, none⟩ (.int .u8 f.first)).setCell ⟨w.heap.size, 1, none⟩ (.int .u8 f.last)).setCell ⟨w.heap.size, 2, none⟩ (.int .u8 f.kind)).setCell ⟨w.heap.size, 3, none⟩ (.int .u16 f.has)).setCell ⟨w.heap.size, 4, none⟩ (.int .u16 f.most)) I w.heap.size A f := by
  have lI := row_lt hI
  have hs : (w.alloc (.cells #[.int .u8 0, .int .u8 0, .int .u8 0, .int .u16 0, .int .u16 0] 117)).heap.size = w.heap.size + 1 := by simp
  have hn : ∀ o v (W : World), (W.setCell ⟨w.heap.size, o, none⟩ v).heap[I]? = W.heap[I]? := fun o v W => blk_other (by omega) v
  have b1 : w1.heap[w.heap.size]? = some (.cells #[.int .u8 0, .int .u8 0, .int .u8 0, .int .u16 0, .int .u16 0] 117) := (hb.block _ (by omega)).trans (heap_alloc_last w _)
  refine ⟨?_, ?_, by omega, Nat.le_refl _, ?_⟩
  · rw [hn, hn, hn, hn, hn, hb.block _ (by omega), Below.heap_alloc _ _ _ lI]; exact hI
  · exact blk_set (blk_set (blk_set (blk_set (blk_set b1 _) _) _) _) _
  · refine Chg.of_below _ ?_
    have h0 : Below w.heap.size w w1 := ((Below.refl w.heap.size w).alloc (Nat.le_refl _) _).trans (hb.mono (by omega))
    exact ((((h0.setCell (Nat.le_refl _) _).setCell (Nat.le_refl _) _).setCell (Nat.le_refl _) _).setCell (Nat.le_refl _) _).setCell (Nat.le_refl _) _
theorem de_post {w w1 : World} {I : Nat} {A : Array Value} (f : Fo) (hI : w.heap[I]? = some (.cells A 119)) (hb : Below w.heap.size w w1) : DE w (w1.alloc (.cells (foA f) 117)) I w1.heap.size A f := by
  have lI := row_lt hI
  have hs := hb.size
  refine ⟨?_, heap_alloc_last w1 _, by omega, hs, ((Chg.of_below _ hb).alloc _)⟩
  rw [Below.heap_alloc _ _ _ (by omega), hb.block _ lI]; exact hI
def dcE (f : Fo) (v : Nat) (x : Cd) : Int := if rd6 f.has v = 0 ∧ alB (hb f.has 256) x.d x.n f.most = true then 0 else 3
structure D2 (w wx : World) (I : Nat) (x : Cd) (f : Fo) (n : Int) : Prop where
  b : wx.heap[I]? = some (.cells (fdA x f n) 119)
  ch : Chg [I] w wx
theorem D2.drw {w wx : World} {I : Nat} {x : Cd} {f : Fo} {n : Int} (h : D2 w wx I x f n) : D2 w wx.drew I x f n := ⟨h.b, h.ch.drew⟩
theorem D2.drwN {w wx : World} {I : Nat} {x : Cd} {f : Fo} {n : Int} (h : D2 w wx I x f n) (m : Nat) : D2 w (wx.drewN m) I x f n := ⟨h.b, h.ch.trans ⟨rfl, rfl, rfl, Nat.le_refl _, fun _ _ _ => rfl⟩⟩
theorem D2.form {w wx : World} {I BF : Nat} {x : Cd} {f0 f : Fo} {n : Int} (h : DE w wx I BF (fdA x f0 n) f) :
    D2 w (((((wx.setCell ⟨I, 8, none⟩ (.int .u8 f.first)).setCell ⟨I, 9, none⟩ (.int .u8 f.last)).setCell ⟨I, 10, none⟩ (.int .u8 f.kind)).setCell ⟨I, 11, none⟩ (.int .u16 f.has)).setCell ⟨I, 12, none⟩ (.int .u16 f.most)) I x f n :=
  ⟨blk_set (blk_set (blk_set (blk_set (blk_set h.b _) _) _) _) _, ((((h.ch.set (by simp) _ _).set (by simp) _ _).set (by simp) _ _).set (by simp) _ _).set (by simp) _ _⟩
theorem D2.words {w wx : World} {I : Nat} {x : Cd} {f : Fo} {n : Int} (h : D2 w wx I x f n) (m : Int) : D2 w (wx.setCell ⟨I, 13, none⟩ (.int .i64 m)) I x f m :=
  ⟨blk_set h.b _, h.ch.set (by simp) _ _⟩
theorem D2.wr {w wx : World} {I : Nat} {x : Cd} {f : Fo} {n : Int} (h : D2 w wx I x f n) {b off len : Nat} {ws : Nat → Nat} (hr : WR w b off len ws) (hb : b ≠ I) (a m : Nat) (ha : a + m ≤ len) : WR wx b (off + a) m (fun i => ws (a + i)) :=
  ⟨fun i hi => by
    have := hr.cell (a + i) (by omega)
    rw [← Nat.add_assoc] at this
    exact (World.cell?_of_block (w := w) (h.ch.block b hr.lb (by simpa using hb))).trans this, fun i => hr.lt _, Nat.lt_of_lt_of_le hr.lb h.ch.size⟩
theorem DE.drw {w wx : World} {I BF : Nat} {A : Array Value} {f : Fo} (h : DE w wx I BF A f) : DE w wx.drew I BF A f := ⟨h.b, h.bf, h.ne, h.ge, h.ch.drew⟩
end Go.Proofs.Ytgkkghphlbgcoaa.Ho
