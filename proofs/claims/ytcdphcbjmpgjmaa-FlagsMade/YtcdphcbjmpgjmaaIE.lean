import Derived.Test.YtcdphcbjmpgjmaaID1
import Derived.Test.YtcdphcbjmpgjmaaID2
import Derived.Test.YtcdphcbjmpgjmaaID3
import Derived.Test.YtcdphcbjmpgjmaaID4
namespace Go.Proofs.Ytcdphcbjmpgjmaa
open Go.RowKit
set_option maxRecDepth 100000
set_option linter.unusedVariables false
set_option linter.unusedSimpArgs false

/-- What work makes beside the flags. -/
def wkX (k : Int) (a b old : Nat) : Int :=
  if k = 1 then ((a : Int) + b) % 4294967296 else if k = 2 then ((a : Int) + b + Fl.carF old) % 4294967296 else if k = 3 then ((a : Int) - b) % 4294967296 else if k = 4 then ((a : Int) - b - Fl.carF old) % 4294967296 else if k = 6 then ((a * 2 ^ (b % 32) % 4294967296 : Nat) : Int) else if k = 7 then (a : Int) / 2 ^ (b % 32) else if k = 8 then Fl.sgn a / 2 ^ (b % 32) % 4294967296 else if k = 9 then Fl.turN (b % 32) a else if k = 10 then ((a * b % 4294967296 : Nat) : Int) else if k = 11 then ((a : Int) + 1) % 4294967296 else if k = 12 then ((a : Int) - 1) % 4294967296 else (a : Int)

theorem rol_16 (a n old : Nat) : Fl.rolF a n (old % 16) = Fl.rolF a n old := by
  unfold Fl.rolF Fl.carF; rw [Nat.mod_mod]
theorem sgn_mod (a : Nat) (ha : a < 4294967296) : Fl.sgn a / 2 ^ 0 % 4294967296 = (a : Int) := by
  unfold Fl.sgn; split <;> simp <;> omega
theorem work_any (k : Int) (a b old : Nat) (w : World) (ha : a < 4294967296) (hb : b < 4294967296) (ho : old < 4294967296) :
    Calls Try.prog 63 #[.int .i64 k, .int .u32 a, .int .u32 b, .int .u32 old] w fun e w' => e = .returned (.tuple #[.int .u32 (wkX k a b old), .int .u32 (Fl.flagsF k a b old)]) ∧ Below w.heap.size w w' := by
  have o16 : ((old % 16 : Nat) : Int) = (old : Int) % 16 := by omega
  by_cases hlo : k < 0
  · have e1 : wkX k a b old = a := by unfold wkX; repeat rw [if_neg (by omega)]
    have e2 : Fl.flagsF k a b old = ((old % 16 : Nat) : Int) := by unfold Fl.flagsF; repeat rw [if_neg (by omega)]
                                                                   exact o16.symm
    rw [e1, e2]; exact work_lo k a b old _ w ha hb ho rfl hlo
  by_cases hhi : 12 < k
  · have e1 : wkX k a b old = a := by unfold wkX; repeat rw [if_neg (by omega)]
    have e2 : Fl.flagsF k a b old = ((old % 16 : Nat) : Int) := by unfold Fl.flagsF; repeat rw [if_neg (by omega)]
                                                                   exact o16.symm
    rw [e1, e2]; exact work_hi k a b old _ w ha hb ho rfl hhi
  have hc : k = 0 ∨ k = 1 ∨ k = 2 ∨ k = 3 ∨ k = 4 ∨ k = 5 ∨ k = 6 ∨ k = 7 ∨ k = 8 ∨ k = 9 ∨ k = 10 ∨ k = 11 ∨ k = 12 := by omega
  rcases hc with rfl | rfl | rfl | rfl | rfl | rfl | rfl | rfl | rfl | rfl | rfl | rfl | rfl
  · have e1 : wkX 0 a b old = a := by simp [wkX]
    have e2 : Fl.flagsF 0 a b old = ((old % 16 : Nat) : Int) := by simp [Fl.flagsF]
    rw [e1, e2]; exact work0 a b old _ w ha hb ho rfl
  · have e1 : wkX 1 a b old = ((a : Int) + b) % 4294967296 := by simp [wkX]
    have e2 : Fl.flagsF 1 a b old = Fl.addF a b 0 := by simp [Fl.flagsF]
    rw [e1, e2]; exact work1 a b old _ w ha hb ho rfl
  · have e1 : wkX 2 a b old = ((a : Int) + b + Fl.carF old) % 4294967296 := by simp [wkX]
    have e2 : Fl.flagsF 2 a b old = Fl.addF a b (Fl.carF old) := by simp [Fl.flagsF]
    rw [e1, e2]; exact work2 a b old _ w ha hb ho rfl
  · have e1 : wkX 3 a b old = ((a : Int) - b) % 4294967296 := by simp [wkX]
    have e2 : Fl.flagsF 3 a b old = Fl.subF a b 0 := by simp [Fl.flagsF]
    rw [e1, e2]; exact work3 a b old _ w ha hb ho rfl
  · have e1 : wkX 4 a b old = ((a : Int) - b - Fl.carF old) % 4294967296 := by simp [wkX]
    have e2 : Fl.flagsF 4 a b old = Fl.subF a b (Fl.carF old) := by simp [Fl.flagsF]
    rw [e1, e2]; exact work4 a b old _ w ha hb ho rfl
  · have e1 : wkX 5 a b old = (a : Int) := by simp [wkX]
    have e2 : Fl.flagsF 5 a b old = Fl.valF a := by simp [Fl.flagsF]
    rw [e1, e2]; exact work5 a b old _ w ha hb ho rfl
  · by_cases hz : b % 32 = 0
    · have e1 : wkX 6 a b old = a := by
        have : wkX 6 a b old = ((a * 2 ^ (b % 32) % 4294967296 : Nat) : Int) := by simp [wkX]
        rw [this]; rw [hz]; simp; omega
      have e2 : Fl.flagsF 6 a b old = ((old % 16 : Nat) : Int) := by simp [Fl.flagsF, hz]
      rw [e1, e2]; exact work6z a b old _ w ha hb ho rfl hz
    · have h0 : 0 < b % 32 := Nat.pos_of_ne_zero hz
      have e1 : wkX 6 a b old = ((a * 2 ^ (b % 32) % 4294967296 : Nat) : Int) := by simp [wkX]
      have e2 : Fl.flagsF 6 a b old = Fl.shlF a (b % 32) := by simp [Fl.flagsF, h0]
      rw [e1, e2]; exact work6n a b old _ w ha hb ho rfl _ rfl h0
  · by_cases hz : b % 32 = 0
    · have e1 : wkX 7 a b old = a := by
        have : wkX 7 a b old = (a : Int) / 2 ^ (b % 32) := by simp [wkX]
        rw [this]; rw [hz]; simp
      have e2 : Fl.flagsF 7 a b old = ((old % 16 : Nat) : Int) := by simp [Fl.flagsF, hz]
      rw [e1, e2]; exact work7z a b old _ w ha hb ho rfl hz
    · have h0 : 0 < b % 32 := Nat.pos_of_ne_zero hz
      have e1 : wkX 7 a b old = (a : Int) / 2 ^ (b % 32) := by simp [wkX]
      have e2 : Fl.flagsF 7 a b old = Fl.shrF a (b % 32) := by simp [Fl.flagsF, h0]
      rw [e1, e2]; exact work7n a b old _ w ha hb ho rfl _ rfl h0
  · by_cases hz : b % 32 = 0
    · have e1 : wkX 8 a b old = a := by
        have : wkX 8 a b old = Fl.sgn a / 2 ^ (b % 32) % 4294967296 := by simp [wkX]
        rw [this]; rw [hz]; exact sgn_mod a ha
      have e2 : Fl.flagsF 8 a b old = ((old % 16 : Nat) : Int) := by simp [Fl.flagsF, hz]
      rw [e1, e2]; exact work8z a b old _ w ha hb ho rfl hz
    · have h0 : 0 < b % 32 := Nat.pos_of_ne_zero hz
      have e1 : wkX 8 a b old = Fl.sgn a / 2 ^ (b % 32) % 4294967296 := by simp [wkX]
      have e2 : Fl.flagsF 8 a b old = Fl.sarF a (b % 32) := by simp [Fl.flagsF, h0]
      rw [e1, e2]; exact work8n a b old _ w ha hb ho rfl _ rfl h0
  · by_cases hz : b % 32 = 0
    · have e1 : wkX 9 a b old = a := by
        have : wkX 9 a b old = Fl.turN (b % 32) a := by simp [wkX]
        rw [this]; rw [hz]; rfl
      have e2 : Fl.flagsF 9 a b old = ((old % 16 : Nat) : Int) := by simp [Fl.flagsF, hz]
      rw [e1, e2]; exact work9z a b old _ w ha hb ho rfl hz
    · have h0 : 0 < b % 32 := Nat.pos_of_ne_zero hz
      have e1 : wkX 9 a b old = Fl.turN (b % 32) a := by simp [wkX]
      have e2 : Fl.flagsF 9 a b old = Fl.rolF a (b % 32) old := by simp [Fl.flagsF, h0]
      rw [e1, e2, ← rol_16 a (b % 32) old]; exact work9n a b old _ w ha hb ho rfl _ rfl h0
  · have e1 : wkX 10 a b old = ((a * b % 4294967296 : Nat) : Int) := by simp [wkX]
    have e2 : Fl.flagsF 10 a b old = Fl.mulF a b := by simp [Fl.flagsF]
    rw [e1, e2]; exact work10 a b old _ w ha hb ho rfl
  · have e1 : wkX 11 a b old = ((a : Int) + 1) % 4294967296 := by simp [wkX]
    have e2 : Fl.flagsF 11 a b old = Fl.incF a old := by simp [Fl.flagsF]
    rw [e1, e2]; exact work11 a b old _ w ha hb ho rfl
  · have e1 : wkX 12 a b old = ((a : Int) - 1) % 4294967296 := by simp [wkX]
    have e2 : Fl.flagsF 12 a b old = Fl.decF a old := by simp [Fl.flagsF]
    rw [e1, e2]; exact work12 a b old _ w ha hb ho rfl

set_option maxHeartbeats 1000000 in
theorem pflags_any (k : Int) (a b old : Nat) (w : World) (ha : a < 4294967296) (hb : b < 4294967296) (ho : old < 4294967296) :
    Calls Try.prog 27 #[.int .i64 k, .int .u32 a, .int .u32 b, .int .u32 old] w fun e w' => e = .returned (.int .u32 (Fl.flagsF k a b old)) ∧ Below w.heap.size w w' := by
  go_enter Try.func27, Try.ntmps27
  go_wp2_with (go_at_call 63; refine (work_any k a b old _ ha hb ho).mono ?_; rintro e w1 ⟨rfl, hB⟩)
  go_ret
  exact ⟨rfl, hB⟩
set_option maxHeartbeats 1000000 in
theorem taken0 (a b : Nat) (w : World) : Calls Try.prog 64 #[.int .u8 0, .int .u32 a, .int .u32 b] w fun e w' => e = .returned (.int .u32 a) ∧ w = w' := by
  go_enter Try.func64, Try.ntmps64
  go_wp2
  go_ret
  exact ⟨rfl, rfl⟩
set_option maxHeartbeats 1000000 in
theorem taken1 (a b x : Nat) (w : World) (hx : Fl.bitN 4 a b = x) (ha : a < 4294967296) (hb : b < 4294967296) : Calls Try.prog 64 #[.int .u8 1, .int .u32 a, .int .u32 b] w fun e w' => e = .returned (.int .u32 x) ∧ w = w' := by
  have h : bits .and .u32 (a : Int) b = (x : Int) := by
    rw [← hx, Go.u32_and_nat _ _ ha hb]; simp [Fl.bitN]
  have HX : Hid _ := hx
  clear hx
  go_enter Try.func64, Try.ntmps64
  go_wp2
  go_ret
  exact ⟨rfl, rfl⟩
set_option maxHeartbeats 1000000 in
theorem taken2 (a b x : Nat) (w : World) (hx : Fl.bitN 5 a b = x) (ha : a < 4294967296) (hb : b < 4294967296) : Calls Try.prog 64 #[.int .u8 2, .int .u32 a, .int .u32 b] w fun e w' => e = .returned (.int .u32 x) ∧ w = w' := by
  have h : bits .or .u32 (a : Int) b = (x : Int) := by
    rw [← hx, Go.u32_or_nat _ _ ha hb]; simp [Fl.bitN]
  have HX : Hid _ := hx
  clear hx
  go_enter Try.func64, Try.ntmps64
  go_wp2
  go_ret
  exact ⟨rfl, rfl⟩
set_option maxHeartbeats 1000000 in
theorem taken3 (a b x : Nat) (w : World) (hx : Fl.bitN 6 a b = x) (ha : a < 4294967296) (hb : b < 4294967296) : Calls Try.prog 64 #[.int .u8 3, .int .u32 a, .int .u32 b] w fun e w' => e = .returned (.int .u32 x) ∧ w = w' := by
  have h : bits .xor .u32 (a : Int) b = (x : Int) := by
    rw [← hx, Go.u32_xor_nat _ _ ha hb]; simp [Fl.bitN]
  have HX : Hid _ := hx
  clear hx
  go_enter Try.func64, Try.ntmps64
  go_wp2
  go_ret
  exact ⟨rfl, rfl⟩
set_option maxHeartbeats 1000000 in
theorem taken4 (a b x : Nat) (w : World) (hx : a / b = x) (h0 : 0 < b) (ha : a < 4294967296) : Calls Try.prog 64 #[.int .u8 4, .int .u32 a, .int .u32 b] w fun e w' => e = .returned (.int .u32 x) ∧ w = w' := by
  have h1 : ¬ (b : Int) = 0 := by omega
  have hxl : x < 4294967296 := by rw [← hx]; exact Nat.lt_of_le_of_lt (Nat.div_le_self _ _) ha
  have hq : (a : Int) / b = (x : Int) := by rw [← hx]; rfl
  have ht : Int.tdiv a b = (x : Int) := by
    rw [Int.tdiv_eq_ediv_of_nonneg (Int.natCast_nonneg a)]; exact hq
  go_enter Try.func64, Try.ntmps64
  go_wp2
  go_ret
  exact ⟨by first | rfl | (rw [ht]) | (rw [hq]) | (simp [ht]) | (simp [hq]), rfl⟩
set_option maxHeartbeats 1000000 in
theorem taken5 (a b x : Nat) (w : World) (hx : a % b = x) (h0 : 0 < b) (ha : a < 4294967296) : Calls Try.prog 64 #[.int .u8 5, .int .u32 a, .int .u32 b] w fun e w' => e = .returned (.int .u32 x) ∧ w = w' := by
  have h1 : ¬ (b : Int) = 0 := by omega
  have hxl : x < 4294967296 := by rw [← hx]; exact Nat.lt_of_le_of_lt (Nat.mod_le _ _) ha
  have hq : (a : Int) % b = (x : Int) := by rw [← hx]; rfl
  have ht : Int.tmod a b = (x : Int) := by
    rw [Int.tmod_eq_emod_of_nonneg (Int.natCast_nonneg a)]; exact hq
  go_enter Try.func64, Try.ntmps64
  go_wp2
  go_ret
  exact ⟨by first | rfl | (rw [ht]) | (rw [hq]) | (simp [ht]) | (simp [hq]), rfl⟩
end Go.Proofs.Ytcdphcbjmpgjmaa
