import Derived.Test.YtkgbjpdoigdjnaaJ30
import Derived.Test.YtkgbjpdoigdjnaaJ31
import Derived.Deep.CutBlock
import Derived.Deep.RegionHeld3
import Derived.Test.YtkgbjpdoigdjnaaJ07
import Derived.Test.YtkgbjpdoigdjnaaJ29
namespace Go.Proofs.Ytkgbjpdoigdjnaa
open Go.RowKit
set_option maxRecDepth 100000
set_option linter.unusedVariables false
set_option linter.unusedSimpArgs false

/-- What work makes beside the flags. -/
def wkX (k : Int) (a b old : Nat) : Int :=
  if k = 1 then ((a : Int) + b) % 4294967296 else if k = 2 then ((a : Int) + b + Fl.carF old) % 4294967296 else if k = 3 then ((a : Int) - b) % 4294967296 else if k = 4 then ((a : Int) - b - Fl.carF old) % 4294967296 else if k = 6 then ((a * 2 ^ (b % 32) % 4294967296 : Nat) : Int) else if k = 7 then (a : Int) / 2 ^ (b % 32) else if k = 8 then Fl.sgn a / 2 ^ (b % 32) % 4294967296 else if k = 9 then Fl.turN (b % 32) a else if k = 10 then ((a * b % 4294967296 : Nat) : Int) else if k = 11 then ((a : Int) + 1) % 4294967296 else if k = 12 then ((a : Int) - 1) % 4294967296 else (a : Int)

theorem rol_16 (a n old : Nat) : Fl.rolF a n (old % 16) = Fl.rolF a n old := by
  unfold Fl.rolF Fl.carF; rw [Nat.mod_mod]
theorem sgn_mod (a : Nat) (ha : a < 4294967296) : Fl.sgn a / 2 ^ 0 % 4294967296 = (a : Int) := by
  unfold Fl.sgn; split <;> simp <;> omega
theorem work_any (k : Int) (a b old : Nat) (w : World) (ha : a < 4294967296) (hb : b < 4294967296) (ho : old < 4294967296) :
    Calls Try.prog 84 #[.int .i64 k, .int .u32 a, .int .u32 b, .int .u32 old] w fun e w' => e = .returned (.tuple #[.int .u32 (wkX k a b old), .int .u32 (Fl.flagsF k a b old)]) ∧ Below w.heap.size w w' := by
  have o16 : ((old % 16 : Nat) : Int) = (old : Int) % 16 := by omega
  by_cases hlo : k < 0
  · have e1 : wkX k a b old = a := by unfold wkX; repeat rw [if_neg (by omega)]
    have e2 : Fl.flagsF k a b old = ((old % 16 : Nat) : Int) := by unfold Fl.flagsF; repeat rw [if_neg (by omega)]
                                                                   exact o16.symm
    rw [e1, e2]; exact work_lo k a b old _ w ha hb ho rfl hlo
  by_cases hhi : 12 < k
  · have e1 : wkX k a b old = a := by unfold wkX; repeat rw [if_neg (by omega)]
    have e2 : Fl.flagsF k a b old = ((old % 16 : Nat) : Int) := by unfold Fl.flagsF; repeat rw [if_neg (by omega)]
                                                                   exact o16.symm
    rw [e1, e2]; exact work_hi k a b old _ w ha hb ho rfl hhi
  have hc : k = 0 ∨ k = 1 ∨ k = 2 ∨ k = 3 ∨ k = 4 ∨ k = 5 ∨ k = 6 ∨ k = 7 ∨ k = 8 ∨ k = 9 ∨ k = 10 ∨ k = 11 ∨ k = 12 := by omega
  rcases hc with rfl | rfl | rfl | rfl | rfl | rfl | rfl | rfl | rfl | rfl | rfl | rfl | rfl
  · have e1 : wkX 0 a b old = a := by simp [wkX]
    have e2 : Fl.flagsF 0 a b old = ((old % 16 : Nat) : Int) := by simp [Fl.flagsF]
    rw [e1, e2]; exact work0 a b old _ w ha hb ho rfl
  · have e1 : wkX 1 a b old = ((a : Int) + b) % 4294967296 := by simp [wkX]
    have e2 : Fl.flagsF 1 a b old = Fl.addF a b 0 := by simp [Fl.flagsF]
    rw [e1, e2]; exact work1 a b old _ w ha hb ho rfl
  · have e1 : wkX 2 a b old = ((a : Int) + b + Fl.carF old) % 4294967296 := by simp [wkX]
    have e2 : Fl.flagsF 2 a b old = Fl.addF a b (Fl.carF old) := by simp [Fl.flagsF]
    rw [e1, e2]; exact work2 a b old _ w ha hb ho rfl
  · have e1 : wkX 3 a b old = ((a : Int) - b) % 4294967296 := by simp [wkX]
    have e2 : Fl.flagsF 3 a b old = Fl.subF a b 0 := by simp [Fl.flagsF]
    rw [e1, e2]; exact work3 a b old _ w ha hb ho rfl
  · have e1 : wkX 4 a b old = ((a : Int) - b - Fl.carF old) % 4294967296 := by simp [wkX]
    have e2 : Fl.flagsF 4 a b old = Fl.subF a b (Fl.carF old) := by simp [Fl.flagsF]
    rw [e1, e2]; exact work4 a b old _ w ha hb ho rfl
  · have e1 : wkX 5 a b old = (a : Int) := by simp [wkX]
    have e2 : Fl.flagsF 5 a b old = Fl.valF a := by simp [Fl.flagsF]
    rw [e1, e2]; exact work5 a b old _ w ha hb ho rfl
  · by_cases hz : b % 32 = 0
    · have e1 : wkX 6 a b old = a := by
        have : wkX 6 a b old = ((a * 2 ^ (b % 32) % 4294967296 : Nat) : Int) := by simp [wkX]
        rw [this]; rw [hz]; simp; omega
      have e2 : Fl.flagsF 6 a b old = ((old % 16 : Nat) : Int) := by simp [Fl.flagsF, hz]
      rw [e1, e2]; exact work6z a b old _ w ha hb ho rfl hz
    · have h0 : 0 < b % 32 := Nat.pos_of_ne_zero hz
      have e1 : wkX 6 a b old = ((a * 2 ^ (b % 32) % 4294967296 : Nat) : Int) := by simp [wkX]
      have e2 : Fl.flagsF 6 a b old = Fl.shlF a (b % 32) := by simp [Fl.flagsF, h0]
      rw [e1, e2]; exact work6n a b old _ w ha hb ho rfl _ rfl h0
  · by_cases hz : b % 32 = 0
    · have e1 : wkX 7 a b old = a := by
        have : wkX 7 a b old = (a : Int) / 2 ^ (b % 32) := by simp [wkX]
        rw [this]; rw [hz]; simp
      have e2 : Fl.flagsF 7 a b old = ((old % 16 : Nat) : Int) := by simp [Fl.flagsF, hz]
      rw [e1, e2]; exact work7z a b old _ w ha hb ho rfl hz
    · have h0 : 0 < b % 32 := Nat.pos_of_ne_zero hz
      have e1 : wkX 7 a b old = (a : Int) / 2 ^ (b % 32) := by simp [wkX]
      have e2 : Fl.flagsF 7 a b old = Fl.shrF a (b % 32) := by simp [Fl.flagsF, h0]
      rw [e1, e2]; exact work7n a b old _ w ha hb ho rfl _ rfl h0
  · by_cases hz : b % 32 = 0
    · have e1 : wkX 8 a b old = a := by
        have : wkX 8 a b old = Fl.sgn a / 2 ^ (b % 32) % 4294967296 := by simp [wkX]
        rw [this]; rw [hz]; exact sgn_mod a ha
      have e2 : Fl.flagsF 8 a b old = ((old % 16 : Nat) : Int) := by simp [Fl.flagsF, hz]
      rw [e1, e2]; exact work8z a b old _ w ha hb ho rfl hz
    · have h0 : 0 < b % 32 := Nat.pos_of_ne_zero hz
      have e1 : wkX 8 a b old = Fl.sgn a / 2 ^ (b % 32) % 4294967296 := by simp [wkX]
      have e2 : Fl.flagsF 8 a b old = Fl.sarF a (b % 32) := by simp [Fl.flagsF, h0]
      rw [e1, e2]; exact work8n a b old _ w ha hb ho rfl _ rfl h0
  · by_cases hz : b % 32 = 0
    · have e1 : wkX 9 a b old = a := by
        have : wkX 9 a b old = Fl.turN (b % 32) a := by simp [wkX]
        rw [this]; rw [hz]; rfl
      have e2 : Fl.flagsF 9 a b old = ((old % 16 : Nat) : Int) := by simp [Fl.flagsF, hz]
      rw [e1, e2]; exact work9z a b old _ w ha hb ho rfl hz
    · have h0 : 0 < b % 32 := Nat.pos_of_ne_zero hz
      have e1 : wkX 9 a b old = Fl.turN (b % 32) a := by simp [wkX]
      have e2 : Fl.flagsF 9 a b old = Fl.rolF a (b % 32) old := by simp [Fl.flagsF, h0]
      rw [e1, e2, ← rol_16 a (b % 32) old]; exact work9n a b old _ w ha hb ho rfl _ rfl h0
  · have e1 : wkX 10 a b old = ((a * b % 4294967296 : Nat) : Int) := by simp [wkX]
    have e2 : Fl.flagsF 10 a b old = Fl.mulF a b := by simp [Fl.flagsF]
    rw [e1, e2]; exact work10 a b old _ w ha hb ho rfl
  · have e1 : wkX 11 a b old = ((a : Int) + 1) % 4294967296 := by simp [wkX]
    have e2 : Fl.flagsF 11 a b old = Fl.incF a old := by simp [Fl.flagsF]
    rw [e1, e2]; exact work11 a b old _ w ha hb ho rfl
  · have e1 : wkX 12 a b old = ((a : Int) - 1) % 4294967296 := by simp [wkX]
    have e2 : Fl.flagsF 12 a b old = Fl.decF a old := by simp [Fl.flagsF]
    rw [e1, e2]; exact work12 a b old _ w ha hb ho rfl

set_option maxHeartbeats 1000000 in
theorem pflags_any (k : Int) (a b old : Nat) (w : World) (ha : a < 4294967296) (hb : b < 4294967296) (ho : old < 4294967296) :
    Calls Try.prog 31 #[.int .i64 k, .int .u32 a, .int .u32 b, .int .u32 old] w fun e w' => e = .returned (.int .u32 (Fl.flagsF k a b old)) ∧ Below w.heap.size w w' := by
  go_enter Try.func31, Try.ntmps31
  go_wp2_with (go_at_call 84; refine (work_any k a b old _ ha hb ho).mono ?_; rintro e w1 ⟨rfl, hB⟩)
  go_ret
  exact ⟨rfl, hB⟩
set_option maxHeartbeats 1000000 in
theorem taken0 (a b : Nat) (w : World) : Calls Try.prog 85 #[.int .u8 0, .int .u32 a, .int .u32 b] w fun e w' => e = .returned (.int .u32 a) ∧ w = w' := by
  go_enter Try.func85, Try.ntmps85
  go_wp2
  go_ret
  exact ⟨rfl, rfl⟩
set_option maxHeartbeats 1000000 in
theorem taken1 (a b x : Nat) (w : World) (hx : Fl.bitN 4 a b = x) (ha : a < 4294967296) (hb : b < 4294967296) : Calls Try.prog 85 #[.int .u8 1, .int .u32 a, .int .u32 b] w fun e w' => e = .returned (.int .u32 x) ∧ w = w' := by
  have h : bits .and .u32 (a : Int) b = (x : Int) := by
    rw [← hx, Go.u32_and_nat _ _ ha hb]; simp [Fl.bitN]
  have HX : Hid _ := hx
  clear hx
  go_enter Try.func85, Try.ntmps85
  go_wp2
  go_ret
  exact ⟨rfl, rfl⟩
set_option maxHeartbeats 1000000 in
theorem taken2 (a b x : Nat) (w : World) (hx : Fl.bitN 5 a b = x) (ha : a < 4294967296) (hb : b < 4294967296) : Calls Try.prog 85 #[.int .u8 2, .int .u32 a, .int .u32 b] w fun e w' => e = .returned (.int .u32 x) ∧ w = w' := by
  have h : bits .or .u32 (a : Int) b = (x : Int) := by
    rw [← hx, Go.u32_or_nat _ _ ha hb]; simp [Fl.bitN]
  have HX : Hid _ := hx
  clear hx
  go_enter Try.func85, Try.ntmps85
  go_wp2
  go_ret
  exact ⟨rfl, rfl⟩
set_option maxHeartbeats 1000000 in
theorem taken3 (a b x : Nat) (w : World) (hx : Fl.bitN 6 a b = x) (ha : a < 4294967296) (hb : b < 4294967296) : Calls Try.prog 85 #[.int .u8 3, .int .u32 a, .int .u32 b] w fun e w' => e = .returned (.int .u32 x) ∧ w = w' := by
  have h : bits .xor .u32 (a : Int) b = (x : Int) := by
    rw [← hx, Go.u32_xor_nat _ _ ha hb]; simp [Fl.bitN]
  have HX : Hid _ := hx
  clear hx
  go_enter Try.func85, Try.ntmps85
  go_wp2
  go_ret
  exact ⟨rfl, rfl⟩
set_option maxHeartbeats 1000000 in
theorem taken4 (a b x : Nat) (w : World) (hx : a / b = x) (h0 : 0 < b) (ha : a < 4294967296) : Calls Try.prog 85 #[.int .u8 4, .int .u32 a, .int .u32 b] w fun e w' => e = .returned (.int .u32 x) ∧ w = w' := by
  have h1 : ¬ (b : Int) = 0 := by omega
  have hxl : x < 4294967296 := by rw [← hx]; exact Nat.lt_of_le_of_lt (Nat.div_le_self _ _) ha
  have hq : (a : Int) / b = (x : Int) := by rw [← hx]; rfl
  have ht : Int.tdiv a b = (x : Int) := by
    rw [Int.tdiv_eq_ediv_of_nonneg (Int.natCast_nonneg a)]; exact hq
  go_enter Try.func85, Try.ntmps85
  go_wp2
  go_ret
  exact ⟨by first | rfl | (rw [ht]) | (rw [hq]) | (simp [ht]) | (simp [hq]), rfl⟩
set_option maxHeartbeats 1000000 in
theorem taken5 (a b x : Nat) (w : World) (hx : a % b = x) (h0 : 0 < b) (ha : a < 4294967296) : Calls Try.prog 85 #[.int .u8 5, .int .u32 a, .int .u32 b] w fun e w' => e = .returned (.int .u32 x) ∧ w = w' := by
  have h1 : ¬ (b : Int) = 0 := by omega
  have hxl : x < 4294967296 := by rw [← hx]; exact Nat.lt_of_le_of_lt (Nat.mod_le _ _) ha
  have hq : (a : Int) % b = (x : Int) := by rw [← hx]; rfl
  have ht : Int.tmod a b = (x : Int) := by
    rw [Int.tmod_eq_emod_of_nonneg (Int.natCast_nonneg a)]; exact hq
  go_enter Try.func85, Try.ntmps85
  go_wp2
  go_ret
  exact ⟨by first | rfl | (rw [ht]) | (rw [hq]) | (simp [ht]) | (simp [hq]), rfl⟩
end Go.Proofs.Ytkgbjpdoigdjnaa

namespace Go.Proofs.Ytkgbjpdoigdjnaa
open Go.RowKit
set_option maxRecDepth 100000
set_option linter.unusedVariables false
set_option linter.unusedSimpArgs false

/-! ## The table of Reckon -/
def rkL : List Value := [.int .u8 1, .int .u8 0, .bool false, .int .u8 2, .int .u8 0, .bool false, .int .u8 3, .int .u8 0, .bool false, .int .u8 4, .int .u8 0, .bool false, .int .u8 5, .int .u8 1, .bool false, .int .u8 5, .int .u8 2, .bool false, .int .u8 5, .int .u8 3, .bool false, .int .u8 3, .int .u8 0, .bool true, .int .u8 5, .int .u8 1, .bool true, .int .u8 6, .int .u8 0, .bool false, .int .u8 7, .int .u8 0, .bool false, .int .u8 8, .int .u8 0, .bool false, .int .u8 9, .int .u8 0, .bool false, .int .u8 10, .int .u8 0, .bool false, .int .u8 5, .int .u8 4, .bool false, .int .u8 5, .int .u8 5, .bool false]
def rkC : Array Value := rkL.toArray
def rkZ : Array Value := #[.int .u8 0, .int .u8 0, .bool false, .int .u8 0, .int .u8 0, .bool false, .int .u8 0, .int .u8 0, .bool false, .int .u8 0, .int .u8 0, .bool false, .int .u8 0, .int .u8 0, .bool false, .int .u8 0, .int .u8 0, .bool false, .int .u8 0, .int .u8 0, .bool false, .int .u8 0, .int .u8 0, .bool false, .int .u8 0, .int .u8 0, .bool false, .int .u8 0, .int .u8 0, .bool false, .int .u8 0, .int .u8 0, .bool false, .int .u8 0, .int .u8 0, .bool false, .int .u8 0, .int .u8 0, .bool false, .int .u8 0, .int .u8 0, .bool false, .int .u8 0, .int .u8 0, .bool false, .int .u8 0, .int .u8 0, .bool false]
theorem rk_info : (Try.prog.info? 135).map (fun i => (i.zero, i.size)) = some (some (.agg rkZ), 48) := by kernel_rfl
theorem wk_last2 (w : World) (o1 o2 : Obj) : ((w.alloc o1).alloc o2).heap[w.heap.size + 1]? = some o2 := by
  have := heap_alloc_last (w.alloc o1) o2
  rwa [show (w.alloc o1).heap.size = w.heap.size + 1 from by simp] at this
theorem rk_row {w w1 : World} {o1 : Obj} {cs : Array Value} {t : TypeId} (h : Below ((w.alloc o1).alloc (.cells cs t)).heap.size ((w.alloc o1).alloc (.cells cs t)) w1) (i : Nat) : w1.cell? ⟨w.heap.size + 1, i, none⟩ = cs[i]? :=
  cell_of_row _ _ i _ _ (0, 0) ((h.block (w.heap.size + 1) (by simp)).trans (wk_last2 w o1 _))
theorem wk_belD {w w1 : World} {o1 o2 : Obj} (h : Below ((w.alloc o1).alloc o2).drew.heap.size ((w.alloc o1).alloc o2).drew w1) : Below ((w.alloc o1).alloc o2).heap.size ((w.alloc o1).alloc o2) w1 := ⟨h.os, h.tape, h.output, h.size, h.block⟩
theorem ret3 {a b c d : Int} {x y : Bool} (h1 : a = c) (h2 : b = d) (h3 : x = y) : Ending.returned (.tuple #[.int .u32 a, .int .u32 b, .bool x]) = .returned (.tuple #[.int .u32 c, .int .u32 d, .bool y]) := by rw [h1, h2, h3]
end Go.Proofs.Ytkgbjpdoigdjnaa

namespace Go.Proofs.Ytkgbjpdoigdjnaa
open Go.RowKit
set_option maxRecDepth 100000
set_option linter.unusedVariables false
set_option linter.unusedSimpArgs false
set_option maxHeartbeats 1000000 in
theorem rk14z (a f : Nat) (w : World) :
    Calls Try.prog 29 #[.int .i64 14, .int .u32 a, .int .u32 0, .int .u32 f] w fun e w' => e = .returned (.tuple #[.int .u32 0, .int .u32 0, .bool false]) ∧ Below w.heap.size w w' := by
  have c0 : rkC[42]? = some (.int .u8 5) := by kernel_rfl
  have c1 : rkC[43]? = some (.int .u8 4) := by kernel_rfl
  have c2 : rkC[44]? = some (.bool false) := by kernel_rfl
  have zW := (Go.zero_of_info rk_info).1
  go_enter Try.func29, Try.ntmps29
  go_upto_region 2 with (first
    | (refine Gu.wpList_pureAt 15 17 _ _ _ ⟨#[.int .i64 14, .int .u32 a, .int .u32 0, .int .u32 f, undef, undef, undef, undef, .int .u32 0, .int .u32 0, .bool false, undef, undef, undef, undef, .agg #[.int .u8 1, .int .u8 0, .bool false], .agg #[.int .u8 2, .int .u8 0, .bool false], .agg #[.int .u8 3, .int .u8 0, .bool false], .agg #[.int .u8 4, .int .u8 0, .bool false], .agg #[.int .u8 5, .int .u8 1, .bool false], .agg #[.int .u8 5, .int .u8 2, .bool false], .agg #[.int .u8 5, .int .u8 3, .bool false], .agg #[.int .u8 3, .int .u8 0, .bool true], .agg #[.int .u8 5, .int .u8 1, .bool true], .agg #[.int .u8 6, .int .u8 0, .bool false], .agg #[.int .u8 7, .int .u8 0, .bool false], .agg #[.int .u8 8, .int .u8 0, .bool false], .agg #[.int .u8 9, .int .u8 0, .bool false], .agg #[.int .u8 10, .int .u8 0, .bool false], .agg #[.int .u8 5, .int .u8 4, .bool false], .agg #[.int .u8 5, .int .u8 5, .bool false], .agg rkC, undef, undef, undef, undef, undef, undef, undef, undef, undef, undef, undef, undef, undef, undef, undef, undef, undef, undef, undef, undef, undef, undef, undef, undef, undef, undef, undef, undef, undef, undef, undef, undef, undef, undef, undef, undef, undef, undef, undef, undef], []⟩ rfl (by kernel_rfl) ?_; simp only [List.drop_succ_cons, List.drop_zero])
    | (refine Gu.wpList_alloc_as rfl 135 rfl _ zW w.heap.size rfl ?_)
    | (refine wpList_store_row rfl 135 _ _ rfl w.heap.size rkC (by rfl) (by rfl) 135 rkZ (heap_alloc_last w _) (Go.zero_of_info rk_info).2 (by rfl) (by kernel_rfl) ?_; rw [World.setRow_alloc_new]))
  go_wp2
  go_ret3
  exact ⟨rfl, wk_bel w _ _⟩
set_option maxHeartbeats 1000000 in
theorem rk15z (a f : Nat) (w : World) :
    Calls Try.prog 29 #[.int .i64 15, .int .u32 a, .int .u32 0, .int .u32 f] w fun e w' => e = .returned (.tuple #[.int .u32 0, .int .u32 0, .bool false]) ∧ Below w.heap.size w w' := by
  have c0 : rkC[45]? = some (.int .u8 5) := by kernel_rfl
  have c1 : rkC[46]? = some (.int .u8 5) := by kernel_rfl
  have c2 : rkC[47]? = some (.bool false) := by kernel_rfl
  have zW := (Go.zero_of_info rk_info).1
  go_enter Try.func29, Try.ntmps29
  go_upto_region 2 with (first
    | (refine Gu.wpList_pureAt 15 17 _ _ _ ⟨#[.int .i64 15, .int .u32 a, .int .u32 0, .int .u32 f, undef, undef, undef, undef, .int .u32 0, .int .u32 0, .bool false, undef, undef, undef, undef, .agg #[.int .u8 1, .int .u8 0, .bool false], .agg #[.int .u8 2, .int .u8 0, .bool false], .agg #[.int .u8 3, .int .u8 0, .bool false], .agg #[.int .u8 4, .int .u8 0, .bool false], .agg #[.int .u8 5, .int .u8 1, .bool false], .agg #[.int .u8 5, .int .u8 2, .bool false], .agg #[.int .u8 5, .int .u8 3, .bool false], .agg #[.int .u8 3, .int .u8 0, .bool true], .agg #[.int .u8 5, .int .u8 1, .bool true], .agg #[.int .u8 6, .int .u8 0, .bool false], .agg #[.int .u8 7, .int .u8 0, .bool false], .agg #[.int .u8 8, .int .u8 0, .bool false], .agg #[.int .u8 9, .int .u8 0, .bool false], .agg #[.int .u8 10, .int .u8 0, .bool false], .agg #[.int .u8 5, .int .u8 4, .bool false], .agg #[.int .u8 5, .int .u8 5, .bool false], .agg rkC, undef, undef, undef, undef, undef, undef, undef, undef, undef, undef, undef, undef, undef, undef, undef, undef, undef, undef, undef, undef, undef, undef, undef, undef, undef, undef, undef, undef, undef, undef, undef, undef, undef, undef, undef, undef, undef, undef, undef, undef], []⟩ rfl (by kernel_rfl) ?_; simp only [List.drop_succ_cons, List.drop_zero])
    | (refine Gu.wpList_alloc_as rfl 135 rfl _ zW w.heap.size rfl ?_)
    | (refine wpList_store_row rfl 135 _ _ rfl w.heap.size rkC (by rfl) (by rfl) 135 rkZ (heap_alloc_last w _) (Go.zero_of_info rk_info).2 (by rfl) (by kernel_rfl) ?_; rw [World.setRow_alloc_new]))
  go_wp2
  go_ret3
  exact ⟨rfl, wk_bel w _ _⟩
set_option maxHeartbeats 1000000 in
theorem rk_lo (o : Int) (a b f : Nat) (w : World) (ho : o < 0) :
    Calls Try.prog 29 #[.int .i64 o, .int .u32 a, .int .u32 b, .int .u32 f] w fun e w' => e = .returned (.tuple #[.int .u32 0, .int .u32 0, .bool false]) ∧ Below w.heap.size w w' := by
  have hd : decide (o < 0) = true := decide_eq_true ho
  have zW := (Go.zero_of_info rk_info).1
  go_enter Try.func29, Try.ntmps29
  go_upto_region 2 with (first
    | (refine Gu.wpList_pureAt 15 17 _ _ _ ⟨#[.int .i64 o, .int .u32 a, .int .u32 b, .int .u32 f, undef, undef, undef, undef, .int .u32 0, .int .u32 0, .bool false, undef, undef, undef, undef, .agg #[.int .u8 1, .int .u8 0, .bool false], .agg #[.int .u8 2, .int .u8 0, .bool false], .agg #[.int .u8 3, .int .u8 0, .bool false], .agg #[.int .u8 4, .int .u8 0, .bool false], .agg #[.int .u8 5, .int .u8 1, .bool false], .agg #[.int .u8 5, .int .u8 2, .bool false], .agg #[.int .u8 5, .int .u8 3, .bool false], .agg #[.int .u8 3, .int .u8 0, .bool true], .agg #[.int .u8 5, .int .u8 1, .bool true], .agg #[.int .u8 6, .int .u8 0, .bool false], .agg #[.int .u8 7, .int .u8 0, .bool false], .agg #[.int .u8 8, .int .u8 0, .bool false], .agg #[.int .u8 9, .int .u8 0, .bool false], .agg #[.int .u8 10, .int .u8 0, .bool false], .agg #[.int .u8 5, .int .u8 4, .bool false], .agg #[.int .u8 5, .int .u8 5, .bool false], .agg rkC, undef, undef, undef, undef, undef, undef, undef, undef, undef, undef, undef, undef, undef, undef, undef, undef, undef, undef, undef, undef, undef, undef, undef, undef, undef, undef, undef, undef, undef, undef, undef, undef, undef, undef, undef, undef, undef, undef, undef, undef], []⟩ rfl (by kernel_rfl) ?_; simp only [List.drop_succ_cons, List.drop_zero])
    | (refine Gu.wpList_alloc_as rfl 135 rfl _ zW w.heap.size rfl ?_)
    | (refine wpList_store_row rfl 135 _ _ rfl w.heap.size rkC (by rfl) (by rfl) 135 rkZ (heap_alloc_last w _) (Go.zero_of_info rk_info).2 (by rfl) (by kernel_rfl) ?_; rw [World.setRow_alloc_new]))
  go_wp2
  go_ret3
  exact ⟨rfl, wk_bel1 w _⟩
set_option maxHeartbeats 1000000 in
theorem rk_hi (o : Int) (a b f : Nat) (w : World) (ho : 15 < o) :
    Calls Try.prog 29 #[.int .i64 o, .int .u32 a, .int .u32 b, .int .u32 f] w fun e w' => e = .returned (.tuple #[.int .u32 0, .int .u32 0, .bool false]) ∧ Below w.heap.size w w' := by
  have hd : decide (o < 0) = false := decide_eq_false (by omega)
  have hd2 : decide (16 ≤ o) = true := decide_eq_true (by omega)
  have zW := (Go.zero_of_info rk_info).1
  go_enter Try.func29, Try.ntmps29
  go_upto_region 2 with (first
    | (refine Gu.wpList_pureAt 15 17 _ _ _ ⟨#[.int .i64 o, .int .u32 a, .int .u32 b, .int .u32 f, undef, undef, undef, undef, .int .u32 0, .int .u32 0, .bool false, undef, undef, undef, undef, .agg #[.int .u8 1, .int .u8 0, .bool false], .agg #[.int .u8 2, .int .u8 0, .bool false], .agg #[.int .u8 3, .int .u8 0, .bool false], .agg #[.int .u8 4, .int .u8 0, .bool false], .agg #[.int .u8 5, .int .u8 1, .bool false], .agg #[.int .u8 5, .int .u8 2, .bool false], .agg #[.int .u8 5, .int .u8 3, .bool false], .agg #[.int .u8 3, .int .u8 0, .bool true], .agg #[.int .u8 5, .int .u8 1, .bool true], .agg #[.int .u8 6, .int .u8 0, .bool false], .agg #[.int .u8 7, .int .u8 0, .bool false], .agg #[.int .u8 8, .int .u8 0, .bool false], .agg #[.int .u8 9, .int .u8 0, .bool false], .agg #[.int .u8 10, .int .u8 0, .bool false], .agg #[.int .u8 5, .int .u8 4, .bool false], .agg #[.int .u8 5, .int .u8 5, .bool false], .agg rkC, undef, undef, undef, undef, undef, undef, undef, undef, undef, undef, undef, undef, undef, undef, undef, undef, undef, undef, undef, undef, undef, undef, undef, undef, undef, undef, undef, undef, undef, undef, undef, undef, undef, undef, undef, undef, undef, undef, undef, undef], []⟩ rfl (by kernel_rfl) ?_; simp only [List.drop_succ_cons, List.drop_zero])
    | (refine Gu.wpList_alloc_as rfl 135 rfl _ zW w.heap.size rfl ?_)
    | (refine wpList_store_row rfl 135 _ _ rfl w.heap.size rkC (by rfl) (by rfl) 135 rkZ (heap_alloc_last w _) (Go.zero_of_info rk_info).2 (by rfl) (by kernel_rfl) ?_; rw [World.setRow_alloc_new]))
  go_wp2
  go_ret3
  exact ⟨rfl, wk_bel1 w _⟩
end Go.Proofs.Ytkgbjpdoigdjnaa

namespace Go.Proofs.Ytkgbjpdoigdjnaa
open Go.RowKit
set_option maxRecDepth 100000
set_option linter.unusedVariables false
set_option linter.unusedSimpArgs false

/-! ## The table of Holds -/
def hoL : List Value := [.int .u32 8, .bool false, .bool false, .int .u32 4, .bool false, .bool false, .int .u32 1, .bool false, .bool false, .int .u32 5, .bool false, .bool false, .int .u32 2, .bool false, .bool false, .int .u32 0, .bool true, .bool false, .int .u32 1, .bool true, .bool false, .int .u32 0, .bool false, .bool true]
def hoC : Array Value := hoL.toArray
def hoZ : Array Value := #[.int .u32 0, .bool false, .bool false, .int .u32 0, .bool false, .bool false, .int .u32 0, .bool false, .bool false, .int .u32 0, .bool false, .bool false, .int .u32 0, .bool false, .bool false, .int .u32 0, .bool false, .bool false, .int .u32 0, .bool false, .bool false, .int .u32 0, .bool false, .bool false]
theorem ho_info : (Try.prog.info? 149).map (fun i => (i.zero, i.size)) = some (some (.agg hoZ), 24) := by kernel_rfl
theorem ho_low : ∀ f : Fin 16, ∀ S : Fin 16, ((f.val &&& S.val : Nat) != 0) = ((f.val % 2 == 1 && S.val % 2 == 1) || (f.val / 2 % 2 == 1 && S.val / 2 % 2 == 1) || (f.val / 4 % 2 == 1 && S.val / 4 % 2 == 1) || (f.val / 8 % 2 == 1 && S.val / 8 % 2 == 1)) := by decide +kernel
theorem ho_bits (f : Nat) (S : Nat) (hf : f < 4294967296) (hS : S < 16) : (bits .and .u32 (f : Int) (S : Int) != 0) = (((f : Int) % 2 == 1 && (S : Int) % 2 == 1) || ((f : Int) / 2 % 2 == 1 && (S : Int) / 2 % 2 == 1) || ((f : Int) / 4 % 2 == 1 && (S : Int) / 4 % 2 == 1) || ((f : Int) / 8 % 2 == 1 && (S : Int) / 8 % 2 == 1)) := by
  rw [Go.u32_and_nat _ _ hf (by omega)]
  have e : f &&& S = (f % 16) &&& S := by
    have h1 : S = 15 &&& S := by rw [Nat.and_comm]; exact (Go.nat_mask4 S ▸ (Nat.mod_eq_of_lt hS).symm)
    have h2 : f % 16 = f &&& 15 := (Go.nat_mask4 f).symm
    rw [h2, Nat.and_assoc, ← h1]
  have h := ho_low ⟨f % 16, by omega⟩ ⟨S, hS⟩
  simp only at h
  rw [e]
  have c : ∀ x : Nat, (((x : Nat) : Int) != 0) = (x != 0) := fun x => by rw [Bool.eq_iff_iff]; simp
  have g : ∀ x d : Nat, ((x : Int) / (d : Int) % 2 == 1) = (x / d % 2 == 1) := fun x d => by
    rw [Bool.eq_iff_iff]; simp only [beq_iff_eq]; rw [← Int.natCast_ediv]; omega
  have g1 : ∀ x : Nat, ((x : Int) % 2 == 1) = (x % 2 == 1) := fun x => by rw [Bool.eq_iff_iff]; simp only [beq_iff_eq]; omega
  rw [c, h]
  have e1 : f % 16 % 2 = f % 2 := by omega
  have e2 : f % 16 / 2 % 2 = f / 2 % 2 := by omega
  have e4 : f % 16 / 4 % 2 = f / 4 % 2 := by omega
  have e8 : f % 16 / 8 % 2 = f / 8 % 2 := by omega
  have k2 := g f 2
  have k4 := g f 4
  have k8 := g f 8
  have l2 := g S 2
  have l4 := g S 4
  have l8 := g S 8
  simp only [Int.cast_ofNat_Int] at k2 k4 k8 l2 l4 l8
  rw [e1, e2, e4, e8, k2, k4, k8, l2, l4, l8, g1, g1]
end Go.Proofs.Ytkgbjpdoigdjnaa
