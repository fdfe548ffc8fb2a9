import Derived.Test.YtkgbjpdoigdjnabOA
set_option linter.unusedVariables false
set_option linter.unusedSimpArgs false
set_option maxHeartbeats 2000000
namespace Go.Proofs.Ytkgbjpdoigdjnab
open Go.RowKit
open Go.Maps
set_option maxRecDepth 100000
def isC (l : List ON) (i : Nat) : Bool := decide ((l.getD i onD).kd = 1)
theorem isConst_any (base X M : Nat) (s : SE) (ml : List ON) (sv : Value) (i : Nat) (w : World) (hS : SW w base X M s ml sv) (hi : i < s.l.length) :
  Calls Try.prog 187 #[.pointer (some ⟨X, 0, none⟩), .int .i64 i] w fun e w' => e = .returned (.bool (isC s.l i)) ∧ w = w' := by
 obtain ⟨g, cap, rfl, lg, hcap, hc⟩ := owns_at hS.o (by omega)
 have c0 : w.cell? ⟨X, 0, none⟩ = some (.slice (some ⟨g, 0, none⟩) s.l.length cap) := hS.xb.cell (i := 0) (by omega)
 have lX := hS.xb.lt
 have m0 := hc i 0 hi (by omega)
 simp only [onC, Nat.add_zero] at m0
 have i0 : (0 : Int) ≤ (i : Int) := by omega
 have i1 : (i : Int) < (s.l.length : Int) := by omega
 obtain ⟨K, HK⟩ : ∃ K, Hid ((s.l.getD i onD).kd = K) := ⟨_, rfl⟩
 rw [HK.out] at m0
 have HI : Hid (isC s.l i = decide (K = 1)) := show _ = _ by unfold isC; rw [HK.out]
 rw [HI.out]
 clear hc hS hi hcap HK HI
 by_cases h1 : K = 1
 ·subst h1
  go_enter Try.func187, Try.ntmps187
  go_wp2
  go_ret
  exact ⟨rfl, rfl⟩
 ·have h2 : ¬ (K : Int) = 1 := by omega
  have d1 : ((K : Int) == 1) = false := by simpa using h2
  rw [decide_eq_false h1]
  clear h1 h2
  go_enter Try.func187, Try.ntmps187
  go_wp2
  go_ret
  exact ⟨by first | rfl | simp [d1], rfl⟩
def chO (l : List ON) (o : ON) : Nat := if (l.getD o.a onD).k = 0 then o.c else o.b
theorem chosen_any (base X M : Nat) (s : SE) (ml : List ON) (sv : Value) (o : ON) (w : World) (hS : SW w base X M s ml sv) (hi : o.a < s.l.length) :
  Calls Try.prog 188 #[.pointer (some ⟨X, 0, none⟩), .agg #[.int .i64 o.kd, .int .i64 o.w, .int .i64 o.a, .int .i64 o.b, .int .i64 o.c, .int .u32 o.k, .int .i64 o.n]] w fun e w' => e = .returned (.int .i64 (chO s.l o)) ∧ Below w.heap.size w w' := by
 obtain ⟨g, cap, rfl, lg, hcap, hc⟩ := owns_at hS.o (by omega)
 have c0 : w.cell? ⟨X, 0, none⟩ = some (.slice (some ⟨g, 0, none⟩) s.l.length cap) := hS.xb.cell (i := 0) (by omega)
 have lX := hS.xb.lt
 have m0 := hc o.a 5 hi (by omega)
 simp only [onC] at m0
 have i0 : (0 : Int) ≤ (o.a : Int) := by omega
 have i1 : (o.a : Int) < (s.l.length : Int) := by omega
 obtain ⟨K, HK⟩ : ∃ K, Hid ((s.l.getD o.a onD).k = K) := ⟨_, rfl⟩
 rw [HK.out] at m0
 have HI : Hid (chO s.l o = if K = 0 then o.c else o.b) := show _ = _ by unfold chO; rw [HK.out]
 rw [HI.out]
 have lX1 := Nat.lt_succ_of_lt lX
 have lg1 := Nat.lt_succ_of_lt lg
 have neX : X ≠ w.heap.size := by omega
 have neg : g ≠ w.heap.size := by omega
 have hB : Below w.heap.size w w := Below.refl _ _
 have HB : Hid _ := hB
 clear hc hS hi hcap HK HI hB
 by_cases h1 : K = 0
 ·subst h1
  rw [if_pos rfl]
  go_enter Try.func188, Try.ntmps188
  go_upto_region 1 with fail
  go_quiet (fail)
  go_wp2
  go_ret
  have hB := HB.out
  exact ⟨rfl, by (repeat first | with_reducible exact Below.refl _ _ | with_reducible exact hB | with_reducible refine Below.drew ?_ | with_reducible refine below_drewN ?_ _ | with_reducible refine Below.alloc ?_ (by first | (simp; done) | (simp; omega) | omega) _ | with_reducible refine Below.setCell ?_ (by first | (simp; done) | (simp; omega) | omega) _)⟩
 ·have d1 : ((K : Int) == 0) = false := by simpa using h1
  have d2 : ((K : Int) != 0) = true := by simpa using h1
  have hK : ¬ (K : Int) = 0 := by omega
  rw [if_neg h1]
  clear h1
  go_enter Try.func188, Try.ntmps188
  go_upto_region 1 with fail
  go_quiet (fail)
  go_wp2
  go_ret
  have hB := HB.out
  exact ⟨rfl, by (repeat first | with_reducible exact Below.refl _ _ | with_reducible exact hB | with_reducible refine Below.drew ?_ | with_reducible refine below_drewN ?_ _ | with_reducible refine Below.alloc ?_ (by first | (simp; done) | (simp; omega) | omega) _ | with_reducible refine Below.setCell ?_ (by first | (simp; done) | (simp; omega) | omega) _)⟩
def tkN (k : Nat) : Nat := (ruT k).takes.toNat
def arg (o : ON) : Nat → Nat
 | 0 => o.a
 | 1 => o.b
 | _ => o.c
theorem tkN_le (k : Nat) : tkN k ≤ 3 ∧ (ruT k).takes = (tkN k : Int) := by
 unfold tkN ruT
 split <;> decide
theorem ru_nat (k : Nat) : ru (k : Int) = ruT k := by unfold ru; rw [Int.toNat_natCast]
def ofCq (l : List ON) (o : ON) : Nat → Bool
 | 0 => true
 | q + 1 => ofCq l o q && isC l (arg o q)
def ofC (l : List ON) (o : ON) : Bool := decide (0 < tkN o.kd) && ofCq l o (tkN o.kd)
theorem ofCq_no {l : List ON} {o : ON} {q : Nat} (h : isC l (arg o q) = false) : ∀ p, q < p → ofCq l o p = false
 | 0, hp => absurd hp (Nat.not_lt_zero _)
 | p + 1, hp => by
  rcases Nat.lt_succ_iff_lt_or_eq.1 hp with h1 | rfl
  ·simp [ofCq, ofCq_no h p h1]
  ·simp [ofCq, h]
theorem ru_takes (R : RU) (w : World) : (Instr.field 202 (.agg #[.int .u8 R.lo, .int .u8 R.hi, .int .u8 R.takes, .int .u8 R.has, .bool R.gives, .bool R.leaves, .bool R.ends]) 2).run Try.prog w = .ok (.int .u8 R.takes) w := by
 simp [Instr.field, Try.underlying202, go_sem, part, asAgg]
theorem ru_leaves (R : RU) (w : World) : (Instr.field 202 (.agg #[.int .u8 R.lo, .int .u8 R.hi, .int .u8 R.takes, .int .u8 R.has, .bool R.gives, .bool R.leaves, .bool R.ends]) 5).run Try.prog w = .ok (.bool R.leaves) w := by
 simp [Instr.field, Try.underlying202, go_sem, part, asAgg]
structure OC1 (w W : World) (L : Nat) (o : ON) : Prop where
 b3 : W.heap[w.heap.size]? = some (.cells #[.int .i64 o.kd, .int .i64 o.w, .int .i64 o.a, .int .i64 o.b, .int .i64 o.c, .int .u32 o.k, .int .i64 o.n] 67)
 b6 : W.heap[L]? = some (.cells #[.int .i64 o.a, .int .i64 o.b, .int .i64 o.c] 233)
 bel : Below w.heap.size w W
theorem OC1.start {w w1 : World} {o : ON} (h : Below (w.heap.size + 1) (w.alloc (.cells #[.int .i64 o.kd, .int .i64 o.w, .int .i64 o.a, .int .i64 o.b, .int .i64 o.c, .int .u32 o.k, .int .i64 o.n] 67)) w1) : OC1 w (w1.alloc (.cells #[.int .i64 o.a, .int .i64 o.b, .int .i64 o.c] 233)) w1.heap.size o := by
 have hs := h.size
 simp only [al_size] at hs
 have h0 : w1.heap[w.heap.size]? = some (.cells #[.int .i64 o.kd, .int .i64 o.w, .int .i64 o.a, .int .i64 o.b, .int .i64 o.c, .int .u32 o.k, .int .i64 o.n] 67) := (h.block _ (Nat.lt_succ_self _)).trans (heap_alloc_last _ _)
 exact ⟨(al_old _ _ _ (row_lt h0)).trans h0, heap_alloc_last _ _, ((((Below.refl _ _).alloc (Nat.le_refl _) _).trans (h.mono (Nat.le_succ _))).alloc (by omega) _)⟩
theorem ofConsts_0 (base X M : Nat) (s : SE) (ml : List ON) (sv : Value) (o : ON) (R : RU) (w : World) (hS : SW w base X M s ml sv) (hR : ruT o.kd = R) (hT : R.takes = 0) (hi : ∀ q, q < 0 → arg o q < s.l.length) :
  Calls Try.prog 189 #[.pointer (some ⟨X, 0, none⟩), .agg #[.int .i64 o.kd, .int .i64 o.w, .int .i64 o.a, .int .i64 o.b, .int .i64 o.c, .int .u32 o.k, .int .i64 o.n]] w fun e w' => e = .returned (.bool (ofC s.l o)) ∧ Below w.heap.size w w' := by
 have HR : Hid (ru (o.kd : Int) = R) := show _ = _ by rw [ru_nat]; exact hR
 have HN : Hid (tkN o.kd = 0) := show _ = _ by unfold tkN; rw [hR, hT]; rfl
 have HS : Hid _ := hS
 have HI : Hid (∀ q, q < 0 → arg o q < s.l.length) := hi
 obtain ⟨lo, hi', takes, has, gives, leaves, ends⟩ := R
 obtain rfl : takes = 0 := hT
 have HF := ru_takes ⟨lo, hi', 0, has, gives, leaves, ends⟩
 clear hS hi hR
 go_enter Try.func189, Try.ntmps189
 go_upto_region 3 with (go_at_call 117; refine (ruleOf_me o.kd ⟨lo, hi', 0, has, gives, leaves, ends⟩ _ HR.out).mono ?_; rintro e w1 ⟨rfl, h1⟩; have H1 : Hid _ := h1; have hk := (h1.block w.heap.size (by simp)).trans (heap_alloc_last _ _); have k0 := row_cell hk 0; have k1 := row_cell hk 1; have k2 := row_cell hk 2; have k3 := row_cell hk 3; have k4 := row_cell hk 4; have kl := row_lt hk; clear h1 hk)
 have HW : Hid (OC1 w _ w1.heap.size o) := OC1.start (by have h := H1.out; simpa using h)
 clear H1 k0 k1 k2 k3 k4 kl
 go_wp2
 go_loopw [23] (fun i' wr => ∃ j : Nat, i' = .int .i64 j ∧ j ≤ 0 ∧ ofCq s.l o j = true ∧ OC1 w wr w1.heap.size o) (fun i _ => 0 - (intOf i).toNat)
 case atStart => exact ⟨0, rfl, by omega, rfl, HW.out⟩
 case round =>
  obtain ⟨j, rfl, hj, hall, hW⟩ := hrel
  have HA : Hid _ := hall
  have HWr : Hid _ := hW
  have l6 := row_lt hW.b6
  have c0 : wr.cell? ⟨w1.heap.size, 0, none⟩ = some (.int .i64 o.a) := row_cell hW.b6 0
  have c1 : wr.cell? ⟨w1.heap.size, 1, none⟩ = some (.int .i64 o.b) := row_cell hW.b6 1
  have c2 : wr.cell? ⟨w1.heap.size, 2, none⟩ = some (.int .i64 o.c) := row_cell hW.b6 2
  clear hall hW HW
  rcases (by omega : j = 0) with rfl
  ·have FB : Hid (ofC s.l o = false) := show _ = _ by unfold ofC; rw [HN.out, HA.out]; rfl
   go_wp2
   go_ret
   exact ⟨by rw [FB.out]; rfl, HWr.out.bel⟩
theorem ofConsts_1 (base X M : Nat) (s : SE) (ml : List ON) (sv : Value) (o : ON) (R : RU) (w : World) (hS : SW w base X M s ml sv) (hR : ruT o.kd = R) (hT : R.takes = 1) (hi : ∀ q, q < 1 → arg o q < s.l.length) :
  Calls Try.prog 189 #[.pointer (some ⟨X, 0, none⟩), .agg #[.int .i64 o.kd, .int .i64 o.w, .int .i64 o.a, .int .i64 o.b, .int .i64 o.c, .int .u32 o.k, .int .i64 o.n]] w fun e w' => e = .returned (.bool (ofC s.l o)) ∧ Below w.heap.size w w' := by
 have HR : Hid (ru (o.kd : Int) = R) := show _ = _ by rw [ru_nat]; exact hR
 have HN : Hid (tkN o.kd = 1) := show _ = _ by unfold tkN; rw [hR, hT]; rfl
 have HS : Hid _ := hS
 have HI : Hid (∀ q, q < 1 → arg o q < s.l.length) := hi
 obtain ⟨lo, hi', takes, has, gives, leaves, ends⟩ := R
 obtain rfl : takes = 1 := hT
 have HF := ru_takes ⟨lo, hi', 1, has, gives, leaves, ends⟩
 clear hS hi hR
 go_enter Try.func189, Try.ntmps189
 go_upto_region 3 with (go_at_call 117; refine (ruleOf_me o.kd ⟨lo, hi', 1, has, gives, leaves, ends⟩ _ HR.out).mono ?_; rintro e w1 ⟨rfl, h1⟩; have H1 : Hid _ := h1; have hk := (h1.block w.heap.size (by simp)).trans (heap_alloc_last _ _); have k0 := row_cell hk 0; have k1 := row_cell hk 1; have k2 := row_cell hk 2; have k3 := row_cell hk 3; have k4 := row_cell hk 4; have kl := row_lt hk; clear h1 hk)
 have HW : Hid (OC1 w _ w1.heap.size o) := OC1.start (by have h := H1.out; simpa using h)
 clear H1 k0 k1 k2 k3 k4 kl
 go_wp2
 go_loopw [23] (fun i' wr => ∃ j : Nat, i' = .int .i64 j ∧ j ≤ 1 ∧ ofCq s.l o j = true ∧ OC1 w wr w1.heap.size o) (fun i _ => 1 - (intOf i).toNat)
 case atStart => exact ⟨0, rfl, by omega, rfl, HW.out⟩
 case round =>
  obtain ⟨j, rfl, hj, hall, hW⟩ := hrel
  have HA : Hid _ := hall
  have HWr : Hid _ := hW
  have l6 := row_lt hW.b6
  have c0 : wr.cell? ⟨w1.heap.size, 0, none⟩ = some (.int .i64 o.a) := row_cell hW.b6 0
  have c1 : wr.cell? ⟨w1.heap.size, 1, none⟩ = some (.int .i64 o.b) := row_cell hW.b6 1
  have c2 : wr.cell? ⟨w1.heap.size, 2, none⟩ = some (.int .i64 o.c) := row_cell hW.b6 2
  clear hall hW HW
  rcases (by omega : j = 0 ∨ j = 1) with rfl | rfl
  ·obtain ⟨C, HC⟩ : ∃ C, Hid (isC s.l o.a = C) := ⟨_, rfl⟩
   cases C with
   | true =>
    go_wp2_with (go_at_call 187; refine (isConst_any base X M s ml sv o.a _ (HS.out.below HWr.out.bel) (HI.out 0 (by omega))).mono ?_; rintro e w2 ⟨rfl, rfl⟩; rw [HC.out])
    go_round
    case rel => exact ⟨1, by go_num, by omega, by show (ofCq s.l o 0 && isC s.l o.a) = true; rw [HA.out, HC.out]; rfl, HWr.out⟩
    case measure => simp [intOf]
   | false =>
    have FB : Hid (ofC s.l o = false) := show _ = _ by unfold ofC; rw [HN.out, ofCq_no (q := 0) (p := 1) HC.out (by omega)]; rfl
    go_wp2_with (go_at_call 187; refine (isConst_any base X M s ml sv o.a _ (HS.out.below HWr.out.bel) (HI.out 0 (by omega))).mono ?_; rintro e w2 ⟨rfl, rfl⟩; rw [HC.out])
    go_ret
    exact ⟨by rw [FB.out]; rfl, HWr.out.bel⟩
  ·have FB : Hid (ofC s.l o = true) := show _ = _ by unfold ofC; rw [HN.out, HA.out]; rfl
   go_wp2
   go_ret
   exact ⟨by rw [FB.out]; rfl, HWr.out.bel⟩
theorem ofConsts_2 (base X M : Nat) (s : SE) (ml : List ON) (sv : Value) (o : ON) (R : RU) (w : World) (hS : SW w base X M s ml sv) (hR : ruT o.kd = R) (hT : R.takes = 2) (hi : ∀ q, q < 2 → arg o q < s.l.length) :
  Calls Try.prog 189 #[.pointer (some ⟨X, 0, none⟩), .agg #[.int .i64 o.kd, .int .i64 o.w, .int .i64 o.a, .int .i64 o.b, .int .i64 o.c, .int .u32 o.k, .int .i64 o.n]] w fun e w' => e = .returned (.bool (ofC s.l o)) ∧ Below w.heap.size w w' := by
 have HR : Hid (ru (o.kd : Int) = R) := show _ = _ by rw [ru_nat]; exact hR
 have HN : Hid (tkN o.kd = 2) := show _ = _ by unfold tkN; rw [hR, hT]; rfl
 have HS : Hid _ := hS
 have HI : Hid (∀ q, q < 2 → arg o q < s.l.length) := hi
 obtain ⟨lo, hi', takes, has, gives, leaves, ends⟩ := R
 obtain rfl : takes = 2 := hT
 have HF := ru_takes ⟨lo, hi', 2, has, gives, leaves, ends⟩
 clear hS hi hR
 go_enter Try.func189, Try.ntmps189
 go_upto_region 3 with (go_at_call 117; refine (ruleOf_me o.kd ⟨lo, hi', 2, has, gives, leaves, ends⟩ _ HR.out).mono ?_; rintro e w1 ⟨rfl, h1⟩; have H1 : Hid _ := h1; have hk := (h1.block w.heap.size (by simp)).trans (heap_alloc_last _ _); have k0 := row_cell hk 0; have k1 := row_cell hk 1; have k2 := row_cell hk 2; have k3 := row_cell hk 3; have k4 := row_cell hk 4; have kl := row_lt hk; clear h1 hk)
 have HW : Hid (OC1 w _ w1.heap.size o) := OC1.start (by have h := H1.out; simpa using h)
 clear H1 k0 k1 k2 k3 k4 kl
 go_wp2
 go_loopw [23] (fun i' wr => ∃ j : Nat, i' = .int .i64 j ∧ j ≤ 2 ∧ ofCq s.l o j = true ∧ OC1 w wr w1.heap.size o) (fun i _ => 2 - (intOf i).toNat)
 case atStart => exact ⟨0, rfl, by omega, rfl, HW.out⟩
 case round =>
  obtain ⟨j, rfl, hj, hall, hW⟩ := hrel
  have HA : Hid _ := hall
  have HWr : Hid _ := hW
  have l6 := row_lt hW.b6
  have c0 : wr.cell? ⟨w1.heap.size, 0, none⟩ = some (.int .i64 o.a) := row_cell hW.b6 0
  have c1 : wr.cell? ⟨w1.heap.size, 1, none⟩ = some (.int .i64 o.b) := row_cell hW.b6 1
  have c2 : wr.cell? ⟨w1.heap.size, 2, none⟩ = some (.int .i64 o.c) := row_cell hW.b6 2
  clear hall hW HW
  rcases (by omega : j = 0 ∨ j = 1 ∨ j = 2) with rfl | rfl | rfl
  ·obtain ⟨C, HC⟩ : ∃ C, Hid (isC s.l o.a = C) := ⟨_, rfl⟩
   cases C with
   | true =>
    go_wp2_with (go_at_call 187; refine (isConst_any base X M s ml sv o.a _ (HS.out.below HWr.out.bel) (HI.out 0 (by omega))).mono ?_; rintro e w2 ⟨rfl, rfl⟩; rw [HC.out])
    go_round
    case rel => exact ⟨1, by go_num, by omega, by show (ofCq s.l o 0 && isC s.l o.a) = true; rw [HA.out, HC.out]; rfl, HWr.out⟩
    case measure => simp [intOf]
   | false =>
    have FB : Hid (ofC s.l o = false) := show _ = _ by unfold ofC; rw [HN.out, ofCq_no (q := 0) (p := 2) HC.out (by omega)]; rfl
    go_wp2_with (go_at_call 187; refine (isConst_any base X M s ml sv o.a _ (HS.out.below HWr.out.bel) (HI.out 0 (by omega))).mono ?_; rintro e w2 ⟨rfl, rfl⟩; rw [HC.out])
    go_ret
    exact ⟨by rw [FB.out]; rfl, HWr.out.bel⟩
  ·obtain ⟨C, HC⟩ : ∃ C, Hid (isC s.l o.b = C) := ⟨_, rfl⟩
   cases C with
   | true =>
    go_wp2_with (go_at_call 187; refine (isConst_any base X M s ml sv o.b _ (HS.out.below HWr.out.bel) (HI.out 1 (by omega))).mono ?_; rintro e w2 ⟨rfl, rfl⟩; rw [HC.out])
    go_round
    case rel => exact ⟨2, by go_num, by omega, by show (ofCq s.l o 1 && isC s.l o.b) = true; rw [HA.out, HC.out]; rfl, HWr.out⟩
    case measure => simp [intOf]
   | false =>
    have FB : Hid (ofC s.l o = false) := show _ = _ by unfold ofC; rw [HN.out, ofCq_no (q := 1) (p := 2) HC.out (by omega)]; rfl
    go_wp2_with (go_at_call 187; refine (isConst_any base X M s ml sv o.b _ (HS.out.below HWr.out.bel) (HI.out 1 (by omega))).mono ?_; rintro e w2 ⟨rfl, rfl⟩; rw [HC.out])
    go_ret
    exact ⟨by rw [FB.out]; rfl, HWr.out.bel⟩
  ·have FB : Hid (ofC s.l o = true) := show _ = _ by unfold ofC; rw [HN.out, HA.out]; rfl
   go_wp2
   go_ret
   exact ⟨by rw [FB.out]; rfl, HWr.out.bel⟩
theorem ofConsts_3 (base X M : Nat) (s : SE) (ml : List ON) (sv : Value) (o : ON) (R : RU) (w : World) (hS : SW w base X M s ml sv) (hR : ruT o.kd = R) (hT : R.takes = 3) (hi : ∀ q, q < 3 → arg o q < s.l.length) :
  Calls Try.prog 189 #[.pointer (some ⟨X, 0, none⟩), .agg #[.int .i64 o.kd, .int .i64 o.w, .int .i64 o.a, .int .i64 o.b, .int .i64 o.c, .int .u32 o.k, .int .i64 o.n]] w fun e w' => e = .returned (.bool (ofC s.l o)) ∧ Below w.heap.size w w' := by
 have HR : Hid (ru (o.kd : Int) = R) := show _ = _ by rw [ru_nat]; exact hR
 have HN : Hid (tkN o.kd = 3) := show _ = _ by unfold tkN; rw [hR, hT]; rfl
 have HS : Hid _ := hS
 have HI : Hid (∀ q, q < 3 → arg o q < s.l.length) := hi
 obtain ⟨lo, hi', takes, has, gives, leaves, ends⟩ := R
 obtain rfl : takes = 3 := hT
 have HF := ru_takes ⟨lo, hi', 3, has, gives, leaves, ends⟩
 clear hS hi hR
 go_enter Try.func189, Try.ntmps189
 go_upto_region 3 with (go_at_call 117; refine (ruleOf_me o.kd ⟨lo, hi', 3, has, gives, leaves, ends⟩ _ HR.out).mono ?_; rintro e w1 ⟨rfl, h1⟩; have H1 : Hid _ := h1; have hk := (h1.block w.heap.size (by simp)).trans (heap_alloc_last _ _); have k0 := row_cell hk 0; have k1 := row_cell hk 1; have k2 := row_cell hk 2; have k3 := row_cell hk 3; have k4 := row_cell hk 4; have kl := row_lt hk; clear h1 hk)
 have HW : Hid (OC1 w _ w1.heap.size o) := OC1.start (by have h := H1.out; simpa using h)
 clear H1 k0 k1 k2 k3 k4 kl
 go_wp2
 go_loopw [23] (fun i' wr => ∃ j : Nat, i' = .int .i64 j ∧ j ≤ 3 ∧ ofCq s.l o j = true ∧ OC1 w wr w1.heap.size o) (fun i _ => 3 - (intOf i).toNat)
 case atStart => exact ⟨0, rfl, by omega, rfl, HW.out⟩
 case round =>
  obtain ⟨j, rfl, hj, hall, hW⟩ := hrel
  have HA : Hid _ := hall
  have HWr : Hid _ := hW
  have l6 := row_lt hW.b6
  have c0 : wr.cell? ⟨w1.heap.size, 0, none⟩ = some (.int .i64 o.a) := row_cell hW.b6 0
  have c1 : wr.cell? ⟨w1.heap.size, 1, none⟩ = some (.int .i64 o.b) := row_cell hW.b6 1
  have c2 : wr.cell? ⟨w1.heap.size, 2, none⟩ = some (.int .i64 o.c) := row_cell hW.b6 2
  clear hall hW HW
  rcases (by omega : j = 0 ∨ j = 1 ∨ j = 2 ∨ j = 3) with rfl | rfl | rfl | rfl
  ·obtain ⟨C, HC⟩ : ∃ C, Hid (isC s.l o.a = C) := ⟨_, rfl⟩
   cases C with
   | true =>
    go_wp2_with (go_at_call 187; refine (isConst_any base X M s ml sv o.a _ (HS.out.below HWr.out.bel) (HI.out 0 (by omega))).mono ?_; rintro e w2 ⟨rfl, rfl⟩; rw [HC.out])
    go_round
    case rel => exact ⟨1, by go_num, by omega, by show (ofCq s.l o 0 && isC s.l o.a) = true; rw [HA.out, HC.out]; rfl, HWr.out⟩
    case measure => simp [intOf]
   | false =>
    have FB : Hid (ofC s.l o = false) := show _ = _ by unfold ofC; rw [HN.out, ofCq_no (q := 0) (p := 3) HC.out (by omega)]; rfl
    go_wp2_with (go_at_call 187; refine (isConst_any base X M s ml sv o.a _ (HS.out.below HWr.out.bel) (HI.out 0 (by omega))).mono ?_; rintro e w2 ⟨rfl, rfl⟩; rw [HC.out])
    go_ret
    exact ⟨by rw [FB.out]; rfl, HWr.out.bel⟩
  ·obtain ⟨C, HC⟩ : ∃ C, Hid (isC s.l o.b = C) := ⟨_, rfl⟩
   cases C with
   | true =>
    go_wp2_with (go_at_call 187; refine (isConst_any base X M s ml sv o.b _ (HS.out.below HWr.out.bel) (HI.out 1 (by omega))).mono ?_; rintro e w2 ⟨rfl, rfl⟩; rw [HC.out])
    go_round
    case rel => exact ⟨2, by go_num, by omega, by show (ofCq s.l o 1 && isC s.l o.b) = true; rw [HA.out, HC.out]; rfl, HWr.out⟩
    case measure => simp [intOf]
   | false =>
    have FB : Hid (ofC s.l o = false) := show _ = _ by unfold ofC; rw [HN.out, ofCq_no (q := 1) (p := 3) HC.out (by omega)]; rfl
    go_wp2_with (go_at_call 187; refine (isConst_any base X M s ml sv o.b _ (HS.out.below HWr.out.bel) (HI.out 1 (by omega))).mono ?_; rintro e w2 ⟨rfl, rfl⟩; rw [HC.out])
    go_ret
    exact ⟨by rw [FB.out]; rfl, HWr.out.bel⟩
  ·obtain ⟨C, HC⟩ : ∃ C, Hid (isC s.l o.c = C) := ⟨_, rfl⟩
   cases C with
   | true =>
    go_wp2_with (go_at_call 187; refine (isConst_any base X M s ml sv o.c _ (HS.out.below HWr.out.bel) (HI.out 2 (by omega))).mono ?_; rintro e w2 ⟨rfl, rfl⟩; rw [HC.out])
    go_round
    case rel => exact ⟨3, by go_num, by omega, by show (ofCq s.l o 2 && isC s.l o.c) = true; rw [HA.out, HC.out]; rfl, HWr.out⟩
    case measure => simp [intOf]
   | false =>
    have FB : Hid (ofC s.l o = false) := show _ = _ by unfold ofC; rw [HN.out, ofCq_no (q := 2) (p := 3) HC.out (by omega)]; rfl
    go_wp2_with (go_at_call 187; refine (isConst_any base X M s ml sv o.c _ (HS.out.below HWr.out.bel) (HI.out 2 (by omega))).mono ?_; rintro e w2 ⟨rfl, rfl⟩; rw [HC.out])
    go_ret
    exact ⟨by rw [FB.out]; rfl, HWr.out.bel⟩
  ·have FB : Hid (ofC s.l o = true) := show _ = _ by unfold ofC; rw [HN.out, HA.out]; rfl
   go_wp2
   go_ret
   exact ⟨by rw [FB.out]; rfl, HWr.out.bel⟩
theorem ofConsts_any (base X M : Nat) (s : SE) (ml : List ON) (sv : Value) (o : ON) (w : World) (hS : SW w base X M s ml sv) (hi : ∀ q, q < tkN o.kd → arg o q < s.l.length) :
  Calls Try.prog 189 #[.pointer (some ⟨X, 0, none⟩), .agg #[.int .i64 o.kd, .int .i64 o.w, .int .i64 o.a, .int .i64 o.b, .int .i64 o.c, .int .u32 o.k, .int .i64 o.n]] w fun e w' => e = .returned (.bool (ofC s.l o)) ∧ Below w.heap.size w w' := by
 obtain ⟨h3, ht⟩ := tkN_le o.kd
 rcases (by omega : tkN o.kd = 0 ∨ tkN o.kd = 1 ∨ tkN o.kd = 2 ∨ tkN o.kd = 3) with e | e | e | e
 ·exact ofConsts_0 base X M s ml sv o _ w hS rfl (by rw [ht, e]; rfl) (e ▸ hi)
 ·exact ofConsts_1 base X M s ml sv o _ w hS rfl (by rw [ht, e]; rfl) (e ▸ hi)
 ·exact ofConsts_2 base X M s ml sv o _ w hS rfl (by rw [ht, e]; rfl) (e ▸ hi)
 ·exact ofConsts_3 base X M s ml sv o _ w hS rfl (by rw [ht, e]; rfl) (e ▸ hi)
end Go.Proofs.Ytkgbjpdoigdjnab
