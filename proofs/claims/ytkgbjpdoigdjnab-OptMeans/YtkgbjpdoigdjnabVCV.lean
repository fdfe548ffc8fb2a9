import Derived.Test.YtkgbjpdoigdjnabVJ33
import Derived.Test.YtkgbjpdoigdjnabVJ34
import Derived.Test.YtkgbjpdoigdjnabOD
import Derived.Test.YtkgbjpdoigdjnabVEC
import Derived.Test.YtkgbjpdoigdjnabWEE
set_option linter.unusedVariables false
set_option linter.unusedSimpArgs false
set_option maxHeartbeats 1000000
namespace Go.Proofs.Ytkgbjpdoigdjnab.Va
open Go.RowKit
set_option maxRecDepth 100000
set_option maxRecDepth 100000
theorem pholds_any (c : Int) (f : Nat) (w : World) (hf : f < 4294967296) (hc64 : c ≤ 9223372036854775807) : Calls Try.prog 202 #[.int .i64 c, .int .u32 f] w fun e w' => e = .returned (.bool (Fl.holdsF c f)) ∧ Below w.heap.size w w' := by
 by_cases hlo : c < 0
 ·rw [show Fl.holdsF c f = false from by unfold Fl.holdsF Fl.holdsZ; rw [if_pos (Or.inl hlo)]]; exact ho_lo c f w hlo
 by_cases hhi : 15 < c
 ·rw [show Fl.holdsF c f = false from by unfold Fl.holdsF Fl.holdsZ; rw [if_pos (Or.inr hhi)]]; exact ho_hi c f w ⟨hhi, hc64⟩
 have hc : c = 0 ∨ c = 1 ∨ c = 2 ∨ c = 3 ∨ c = 4 ∨ c = 5 ∨ c = 6 ∨ c = 7 ∨ c = 8 ∨ c = 9 ∨ c = 10 ∨ c = 11 ∨ c = 12 ∨ c = 13 ∨ c = 14 ∨ c = 15 := by omega
 rcases hc with rfl | rfl | rfl | rfl | rfl | rfl | rfl | rfl | rfl | rfl | rfl | rfl | rfl | rfl | rfl | rfl
 ·exact ph0 f w hf
 ·exact ph1 f w hf
 ·exact ph2 f w hf
 ·exact ph3 f w hf
 ·exact ph4 f w hf
 ·exact ph5 f w hf
 ·exact ph6 f w hf
 ·exact ph7 f w hf
 ·exact ph8 f w hf
 ·exact ph9 f w hf
 ·exact ph10 f w hf
 ·exact ph11 f w hf
 ·exact ph12 f w hf
 ·exact ph13 f w hf
 ·exact ph14 f w hf
 ·exact ph15 f w hf
end Go.Proofs.Ytkgbjpdoigdjnab.Va
namespace Go.Proofs.Ytkgbjpdoigdjnab
open Go.RowKit
open Go.Maps
set_option maxRecDepth 100000
def vOf (o : ON) (a b c : Nat) : Nat :=
 if o.kd = 1 then o.k else if o.kd = 4 then (Va.binF o.w a b).toNat else if o.kd = 5 then Va.unF o.w a else if o.kd = 6 then (if a = 0 then c else b)
 else if o.kd = 7 then (Va.Fl.flagsF o.w a b c).toNat else if o.kd = 8 then (Va.Fl.isF (Va.Fl.holdsF o.w a) 1).toNat else 0
theorem vOf_lt (o : ON) (a b c : Nat) (ha : a < 4294967296) (hb : b < 4294967296) (hc : c < 4294967296) (hk : o.k < 4294967296) : vOf o a b c < 4294967296 := by
 have h4 := Va.binF_bd o.w a b ha hb
 have h5 := Va.unF_bd o.w a ha
 have h7 := Va.flagsF_bd o.w a b c
 have h8 := Va.isF1 (Va.Fl.holdsF o.w a)
 unfold vOf
 repeat' split
 all_goals omega
theorem ret_nat {x : Int} (h : 0 ≤ x) : Ending.returned (.int .u32 x) = .returned (.int .u32 ((x.toNat : Nat) : Int)) := by rw [Int.toNat_of_nonneg h]
theorem of_1 (w0 a0 b0 c0 k0 n0 a b c : Nat) (w : World) (ha : a < 4294967296) (hb : b < 4294967296) (hc : c < 4294967296) :
  Calls Try.prog 190 #[.agg #[.int .i64 1, .int .i64 w0, .int .i64 a0, .int .i64 b0, .int .i64 c0, .int .u32 k0, .int .i64 n0], .int .u32 a, .int .u32 b, .int .u32 c] w fun e w' => e = .returned (.int .u32 (k0 : Nat)) ∧ Below w.heap.size w w' := by
 have HA : Hid (a < 4294967296) := ha
 have HB : Hid (b < 4294967296) := hb
 go_enter Try.func190, Try.ntmps190
 go_wp2_with (fail)
 go_ret
 exact ⟨rfl, by (repeat first | with_reducible exact Below.refl _ _ | with_reducible exact Below.refl _ _ | with_reducible refine Below.drew ?_ | with_reducible refine below_drewN ?_ _ | with_reducible refine Below.alloc ?_ (by first | (simp; done) | (simp; omega) | omega) _ | with_reducible refine Below.setCell ?_ (by first | (simp; done) | (simp; omega) | omega) _)⟩
theorem of_4 (w0 a0 b0 c0 k0 n0 a b c : Nat) (w : World) (ha : a < 4294967296) (hb : b < 4294967296) (hc : c < 4294967296) (hw : w0 ≤ 15) :
  Calls Try.prog 190 #[.agg #[.int .i64 4, .int .i64 w0, .int .i64 a0, .int .i64 b0, .int .i64 c0, .int .u32 k0, .int .i64 n0], .int .u32 a, .int .u32 b, .int .u32 c] w fun e w' => e = .returned (.int .u32 ((Va.binF w0 a b).toNat : Nat)) ∧ Below w.heap.size w w' := by
 have HA : Hid (a < 4294967296) := ha
 have HB : Hid (b < 4294967296) := hb
 go_enter Try.func190, Try.ntmps190
 go_wp2_with (go_at_call 198; refine (Va.pbin_any w0 a b _ ha hb ⟨by omega, by omega⟩).mono ?_; rintro e w1 ⟨rfl, rfl⟩)
 go_ret
 exact ⟨ret_nat (Va.binF_bd w0 a b HA.out HB.out).1, by (repeat first | with_reducible exact Below.refl _ _ | with_reducible exact Below.refl _ _ | with_reducible refine Below.drew ?_ | with_reducible refine below_drewN ?_ _ | with_reducible refine Below.alloc ?_ (by first | (simp; done) | (simp; omega) | omega) _ | with_reducible refine Below.setCell ?_ (by first | (simp; done) | (simp; omega) | omega) _)⟩
theorem of_5 (w0 a0 b0 c0 k0 n0 a b c : Nat) (w : World) (ha : a < 4294967296) (hb : b < 4294967296) (hc : c < 4294967296) (hw : w0 ≤ 6) :
  Calls Try.prog 190 #[.agg #[.int .i64 5, .int .i64 w0, .int .i64 a0, .int .i64 b0, .int .i64 c0, .int .u32 k0, .int .i64 n0], .int .u32 a, .int .u32 b, .int .u32 c] w fun e w' => e = .returned (.int .u32 (Va.unF w0 a : Nat)) ∧ Below w.heap.size w w' := by
 have HA : Hid (a < 4294967296) := ha
 have HB : Hid (b < 4294967296) := hb
 go_enter Try.func190, Try.ntmps190
 go_wp2_with (go_at_call 199; refine (Va.pun_any w0 a _ ha ⟨by omega, by omega⟩).mono ?_; rintro e w1 ⟨rfl, rfl⟩)
 go_ret
 exact ⟨rfl, by (repeat first | with_reducible exact Below.refl _ _ | with_reducible exact Below.refl _ _ | with_reducible refine Below.drew ?_ | with_reducible refine below_drewN ?_ _ | with_reducible refine Below.alloc ?_ (by first | (simp; done) | (simp; omega) | omega) _ | with_reducible refine Below.setCell ?_ (by first | (simp; done) | (simp; omega) | omega) _)⟩
theorem of_7 (w0 a0 b0 c0 k0 n0 a b c : Nat) (w : World) (ha : a < 4294967296) (hb : b < 4294967296) (hc : c < 4294967296) :
  Calls Try.prog 190 #[.agg #[.int .i64 7, .int .i64 w0, .int .i64 a0, .int .i64 b0, .int .i64 c0, .int .u32 k0, .int .i64 n0], .int .u32 a, .int .u32 b, .int .u32 c] w fun e w' => e = .returned (.int .u32 ((Va.Fl.flagsF w0 a b c).toNat : Nat)) ∧ Below w.heap.size w w' := by
 have HA : Hid (a < 4294967296) := ha
 have HB : Hid (b < 4294967296) := hb
 go_enter Try.func190, Try.ntmps190
 go_wp2_with (go_at_call 200; refine (Va.pflags_any w0 a b c _ ha hb hc).mono ?_; rintro e w1 ⟨rfl, h1⟩; have H1 : Hid _ := h1; clear h1)
 go_ret
 exact ⟨ret_nat (Va.flagsF_bd w0 a b c).1, ((Below.refl _ _).alloc (Nat.le_refl _) _).trans (H1.out.mono (by simp))⟩
theorem of_8 (w0 a0 b0 c0 k0 n0 a b c : Nat) (w : World) (ha : a < 4294967296) (hb : b < 4294967296) (hc : c < 4294967296) (hw : w0 ≤ 15) :
  Calls Try.prog 190 #[.agg #[.int .i64 8, .int .i64 w0, .int .i64 a0, .int .i64 b0, .int .i64 c0, .int .u32 k0, .int .i64 n0], .int .u32 a, .int .u32 b, .int .u32 c] w fun e w' => e = .returned (.int .u32 ((Va.Fl.isF (Va.Fl.holdsF w0 a) 1).toNat : Nat)) ∧ Below w.heap.size w w' := by
 have HA : Hid (a < 4294967296) := ha
 have HB : Hid (b < 4294967296) := hb
 go_enter Try.func190, Try.ntmps190
 go_wp2_with (first | (go_at_call 202; refine (Va.pholds_any w0 a _ ha (by omega)).mono ?_; rintro e w1 ⟨rfl, h1⟩; have H1 : Hid _ := h1; clear h1) | (go_at_call 201; refine (Va.truth_any _ _).mono ?_; rintro e w2 ⟨rfl, rfl⟩))
 go_ret
 exact ⟨ret_nat (Va.isF1 _).1, ((Below.refl _ _).alloc (Nat.le_refl _) _).trans (H1.out.mono (by simp))⟩
theorem of_6z (w0 a0 b0 c0 k0 n0 a b c : Nat) (w : World) (hz : a = 0) :
  Calls Try.prog 190 #[.agg #[.int .i64 6, .int .i64 w0, .int .i64 a0, .int .i64 b0, .int .i64 c0, .int .u32 k0, .int .i64 n0], .int .u32 a, .int .u32 b, .int .u32 c] w fun e w' => e = .returned (.int .u32 (c : Nat)) ∧ Below w.heap.size w w' := by
 subst hz
 go_enter Try.func190, Try.ntmps190
 go_wp2
 go_ret
 exact ⟨rfl, by (repeat first | with_reducible exact Below.refl _ _ | with_reducible exact Below.refl _ _ | with_reducible refine Below.drew ?_ | with_reducible refine below_drewN ?_ _ | with_reducible refine Below.alloc ?_ (by first | (simp; done) | (simp; omega) | omega) _ | with_reducible refine Below.setCell ?_ (by first | (simp; done) | (simp; omega) | omega) _)⟩
theorem of_6s (w0 a0 b0 c0 k0 n0 a b c : Nat) (w : World) (hz : ¬ a = 0) :
  Calls Try.prog 190 #[.agg #[.int .i64 6, .int .i64 w0, .int .i64 a0, .int .i64 b0, .int .i64 c0, .int .u32 k0, .int .i64 n0], .int .u32 a, .int .u32 b, .int .u32 c] w fun e w' => e = .returned (.int .u32 (b : Nat)) ∧ Below w.heap.size w w' := by
 have hz' : ¬ (a : Int) = 0 := by omega
 have d : ((a : Int) == 0) = false := by simpa using hz'
 clear hz
 go_enter Try.func190, Try.ntmps190
 go_wp2
 go_ret
 exact ⟨rfl, by (repeat first | with_reducible exact Below.refl _ _ | with_reducible exact Below.refl _ _ | with_reducible refine Below.drew ?_ | with_reducible refine below_drewN ?_ _ | with_reducible refine Below.alloc ?_ (by first | (simp; done) | (simp; omega) | omega) _ | with_reducible refine Below.setCell ?_ (by first | (simp; done) | (simp; omega) | omega) _)⟩
theorem of_any (o : ON) (a b c : Nat) (w : World) (ha : a < 4294967296) (hb : b < 4294967296) (hc : c < 4294967296) (hp : isP o.kd = true) (h4 : o.kd = 4 ∨ o.kd = 8 → o.w ≤ 15) (h5 : o.kd = 5 → o.w ≤ 6) :
  Calls Try.prog 190 #[.agg #[.int .i64 o.kd, .int .i64 o.w, .int .i64 o.a, .int .i64 o.b, .int .i64 o.c, .int .u32 o.k, .int .i64 o.n], .int .u32 a, .int .u32 b, .int .u32 c] w fun e w' => e = .returned (.int .u32 (vOf o a b c : Nat)) ∧ Below w.heap.size w w' := by
 obtain ⟨kd, w0, a0, b0, c0, k0, n0⟩ := o
 have hk : kd = 1 ∨ kd = 4 ∨ kd = 5 ∨ kd = 6 ∨ kd = 7 ∨ kd = 8 := by simp [isP] at hp; omega
 rcases hk with rfl | rfl | rfl | rfl | rfl | rfl
 ·exact of_1 w0 a0 b0 c0 k0 n0 a b c w ha hb hc
 ·exact of_4 w0 a0 b0 c0 k0 n0 a b c w ha hb hc (h4 (.inl rfl))
 ·exact of_5 w0 a0 b0 c0 k0 n0 a b c w ha hb hc (h5 rfl)
 ·by_cases hz : a = 0
  ·rw [show vOf ⟨6, w0, a0, b0, c0, k0, n0⟩ a b c = c by simp [vOf, hz]]; exact of_6z w0 a0 b0 c0 k0 n0 a b c w hz
  ·rw [show vOf ⟨6, w0, a0, b0, c0, k0, n0⟩ a b c = b by simp [vOf, hz]]; exact of_6s w0 a0 b0 c0 k0 n0 a b c w hz
 ·exact of_7 w0 a0 b0 c0 k0 n0 a b c w ha hb hc
 ·exact of_8 w0 a0 b0 c0 k0 n0 a b c w ha hb hc (h4 (.inr rfl))
end Go.Proofs.Ytkgbjpdoigdjnab
