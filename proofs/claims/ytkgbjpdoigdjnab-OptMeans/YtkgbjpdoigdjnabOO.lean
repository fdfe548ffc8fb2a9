import Derived.Test.YtkgbjpdoigdjnabOE
set_option linter.unusedVariables false
set_option linter.unusedSimpArgs false
set_option maxHeartbeats 2000000
namespace Go.Proofs.Ytkgbjpdoigdjnab
open Go.RowKit
open Go.Maps
set_option maxRecDepth 100000
def ren (o : ON) (T_ : Nat → Option Nat) : ON :=
 ⟨o.kd, o.w, if 0 < tkN o.kd then (T_ o.a).getD 0 else o.a, if 1 < tkN o.kd then (T_ o.b).getD 0 else o.b, if 2 < tkN o.kd then (T_ o.c).getD 0 else o.c, o.k, o.n⟩
structure RN (w W : World) (A : Array Value) (L : Nat) : Prop where
 b : W.heap[w.heap.size]? = some (.cells A 67)
 r : W.heap[w.heap.size + 1]? = some (.cells #[.int .i64 0, .int .i64 0, .int .i64 0, .int .i64 0, .int .i64 0, .int .u32 0, .int .i64 0] 67)
 p : W.heap[L]? = some (.cells #[.pointer (some ⟨w.heap.size, 2, none⟩), .pointer (some ⟨w.heap.size, 3, none⟩), .pointer (some ⟨w.heap.size, 4, none⟩)] 270)
 bel : Below w.heap.size w W
 lt : w.heap.size + 1 < L
theorem RN.start {w : World} {A : Array Value} : RN w (((w.alloc (.cells A 67)).alloc (.cells #[.int .i64 0, .int .i64 0, .int .i64 0, .int .i64 0, .int .i64 0, .int .u32 0, .int .i64 0] 67)).alloc (.cells #[.pointer (some ⟨w.heap.size, 2, none⟩), .pointer (some ⟨w.heap.size, 3, none⟩), .pointer (some ⟨w.heap.size, 4, none⟩)] 270)) A (w.heap.size + 2) :=
 ⟨(al3 w _ _ _).1, (al3 w _ _ _).2.1, (al3 w _ _ _).2.2, (((Below.refl _ _).alloc (Nat.le_refl _) _).alloc (by simp) _).alloc (by simp; omega) _, by omega⟩
theorem RN.below {w W W' : World} {A : Array Value} {L : Nat} (h : RN w W A L) (k : Below W.heap.size W W') : RN w W' A L :=
 ⟨(k.block _ (row_lt h.b)).trans h.b, (k.block _ (row_lt h.r)).trans h.r, (k.block _ (row_lt h.p)).trans h.p, h.bel.trans (k.mono (Nat.le_of_lt (row_lt h.b))), h.lt⟩
theorem RN.set {w W : World} {A A' : Array Value} {L : Nat} (h : RN w W A L) (o : Nat) (v : Value) (e : A.setIfInBounds o v = A') : RN w (W.setCell ⟨w.heap.size, o, none⟩ v) A' L :=
 ⟨(heap_setCell_same W _ o _ _ v h.b).trans (by rw [e]), (blk_other (by omega) v).trans h.r, (blk_other (by have := h.lt; omega) v).trans h.p, h.bel.setCell (Nat.le_refl _) v, h.lt⟩
def rnA0 (o : ON)  (j : Nat) : Array Value := #[.int .i64 o.kd, .int .i64 o.w, .int .i64 o.a, .int .i64 o.b, .int .i64 o.c, .int .u32 o.k, .int .i64 o.n]
theorem ren_0 (H N cap : Nat) (T_ : Nat → Option Nat) (o : ON) (R : RU) (w : World) (hT : w.rowIs H 3 N (fun i => .int .i64 (oI (T_ i)))) (hR : ruT o.kd = R) (hK : R.takes = 0) (hi : ∀ q, q < 0 → arg o q < N) (ht : ∀ q, q < 0 → ∃ v, T_ (arg o q) = some v) :
  Calls Try.prog 122 #[.agg #[.int .i64 o.kd, .int .i64 o.w, .int .i64 o.a, .int .i64 o.b, .int .i64 o.c, .int .u32 o.k, .int .i64 o.n], .slice (some ⟨H, 0, none⟩) N cap] w fun e w' => e = .returned (.agg #[.int .i64 (ren o T_).kd, .int .i64 (ren o T_).w, .int .i64 (ren o T_).a, .int .i64 (ren o T_).b, .int .i64 (ren o T_).c, .int .u32 (ren o T_).k, .int .i64 (ren o T_).n]) ∧ Below w.heap.size w w' := by
 have HR : Hid (ru (o.kd : Int) = R) := show _ = _ by rw [ru_nat]; exact hR
 have hN : tkN o.kd = 0 := show _ = _ by unfold tkN; rw [hR, hK]; rfl
 have HLH : Hid (H < w.heap.size) := hT.lt
 have HE : Hid (ren o T_ = ⟨o.kd, o.w, o.a, o.b, o.c, o.k, o.n⟩) := show _ = _ by
  unfold ren
  rw [hN]
  simp
 rw [HE.out]
 obtain ⟨lo, hi', takes, has, gives, leaves, ends⟩ := R
 obtain rfl : takes = 0 := hK
 have HF := ru_takes ⟨lo, hi', 0, has, gives, leaves, ends⟩
 clear hT hi ht hR hN
 go_enter Try.func122, Try.ntmps122
 go_upto_region 2 with fail
 refine wp_gen (fun W' => RN w W' (rnA0 o  0) (w.heap.size + 2)) RN.start ?_
 intro W hW
 have HW0 : Hid _ := hW
 have a0 : W.cell? ⟨w.heap.size, 0, none⟩ = some (.int .i64 o.kd) := row_cell hW.b 0
 have al := row_lt hW.b
 have pl := row_lt hW.p
 clear hW
 go_wp2_with (go_at_call 117; refine (ruleOf_me o.kd ⟨lo, hi', 0, has, gives, leaves, ends⟩ _ HR.out).mono ?_; rintro e w1 ⟨rfl, h1⟩; have HW1 : Hid _ := HW0.out.below h1; have pl1 := row_lt HW1.out.p; clear h1)
 clear a0 al pl
 go_loopw [18] (fun i' wr => ∃ j : Nat, i' = .int .i64 j ∧ j ≤ 0 ∧ RN w wr (rnA0 o  j) (w.heap.size + 2)) (fun i _ => 0 - (intOf i).toNat)
 case atStart => exact ⟨0, rfl, by omega, HW1.out⟩
 case round =>
  obtain ⟨j, rfl, hj, hW⟩ := hrel
  have HWr : Hid _ := hW
  have l6 := row_lt hW.p
  have lb := row_lt hW.b
  have lr := row_lt hW.r
  have c0 : wr.cell? ⟨w.heap.size + 2, 0, none⟩ = some (.pointer (some ⟨w.heap.size, 2, none⟩)) := row_cell hW.p 0
  have c1 : wr.cell? ⟨w.heap.size + 2, 1, none⟩ = some (.pointer (some ⟨w.heap.size, 3, none⟩)) := row_cell hW.p 1
  have c2 : wr.cell? ⟨w.heap.size + 2, 2, none⟩ = some (.pointer (some ⟨w.heap.size, 4, none⟩)) := row_cell hW.p 2
  clear hW HW1 HW0
  rcases (by omega : j = 0) with rfl
  ·have B : Hid (wr.heap[w.heap.size]? = some (.cells #[.int .i64 o.kd, .int .i64 o.w, .int .i64 o.a, .int .i64 o.b, .int .i64 o.c, .int .u32 o.k, .int .i64 o.n] 67)) := HWr.out.b
   have d0 := row_cell B.out 0
   have d1 := row_cell B.out 1
   have d2 := row_cell B.out 2
   have d3 := row_cell B.out 3
   have d4 := row_cell B.out 4
   have d5 := row_cell B.out 5
   have d6 := row_cell B.out 6
   have r0 := row_cell HWr.out.r 0
   have r1 := row_cell HWr.out.r 1
   have r2 := row_cell HWr.out.r 2
   have r3 := row_cell HWr.out.r 3
   have r4 := row_cell HWr.out.r 4
   have r5 := row_cell HWr.out.r 5
   have r6 := row_cell HWr.out.r 6
   have rf := row_fr HWr.out.r
   go_wp2
   exact bodyPost_ret (v := .agg #[.int .i64 o.kd, .int .i64 o.w, .int .i64 o.a, .int .i64 o.b, .int .i64 o.c, .int .u32 o.k, .int .i64 o.n]) (by simp [results, Try.results122, go_sem, r0, r1, r2, r3, r4, r5, r6]) rfl ⟨rfl, by
    have hB := HWr.out.bel
    (repeat first | with_reducible exact Below.refl _ _ | with_reducible exact hB | with_reducible refine Below.drew ?_ | with_reducible refine below_drewN ?_ _ | with_reducible refine Below.alloc ?_ (by first | (simp; done) | (simp; omega) | omega) _ | with_reducible refine Below.setCell ?_ (by first | (simp; done) | (simp; omega) | omega) _)⟩
def rnA1 (o : ON) (v0 : Nat) (j : Nat) : Array Value := match j with | 0 => #[.int .i64 o.kd, .int .i64 o.w, .int .i64 o.a, .int .i64 o.b, .int .i64 o.c, .int .u32 o.k, .int .i64 o.n] | _ => #[.int .i64 o.kd, .int .i64 o.w, .int .i64 v0, .int .i64 o.b, .int .i64 o.c, .int .u32 o.k, .int .i64 o.n]
theorem ren_1 (H N cap : Nat) (T_ : Nat → Option Nat) (o : ON) (R : RU) (w : World) (hT : w.rowIs H 3 N (fun i => .int .i64 (oI (T_ i)))) (hR : ruT o.kd = R) (hK : R.takes = 1) (hi : ∀ q, q < 1 → arg o q < N) (ht : ∀ q, q < 1 → ∃ v, T_ (arg o q) = some v) :
  Calls Try.prog 122 #[.agg #[.int .i64 o.kd, .int .i64 o.w, .int .i64 o.a, .int .i64 o.b, .int .i64 o.c, .int .u32 o.k, .int .i64 o.n], .slice (some ⟨H, 0, none⟩) N cap] w fun e w' => e = .returned (.agg #[.int .i64 (ren o T_).kd, .int .i64 (ren o T_).w, .int .i64 (ren o T_).a, .int .i64 (ren o T_).b, .int .i64 (ren o T_).c, .int .u32 (ren o T_).k, .int .i64 (ren o T_).n]) ∧ Below w.heap.size w w' := by
 have HR : Hid (ru (o.kd : Int) = R) := show _ = _ by rw [ru_nat]; exact hR
 have hN : tkN o.kd = 1 := show _ = _ by unfold tkN; rw [hR, hK]; rfl
 have HLH : Hid (H < w.heap.size) := hT.lt
 obtain ⟨v0, HT0⟩ : ∃ v, Hid (T_ o.a = some v) := ht 0 (by omega)
 have HI0 : Hid (o.a < N) := hi 0 (by omega)
 have HTC0 : Hid (w.cell? ⟨H, o.a, none⟩ = some (.int .i64 v0)) := show _ = _ by (have h := hT.cell HI0.out; simpa [HT0.out, oI] using h)
 have HE : Hid (ren o T_ = ⟨o.kd, o.w, v0, o.b, o.c, o.k, o.n⟩) := show _ = _ by
  unfold ren
  rw [hN]
  simp [HT0.out]
 rw [HE.out]
 obtain ⟨lo, hi', takes, has, gives, leaves, ends⟩ := R
 obtain rfl : takes = 1 := hK
 have HF := ru_takes ⟨lo, hi', 1, has, gives, leaves, ends⟩
 clear hT hi ht hR hN
 go_enter Try.func122, Try.ntmps122
 go_upto_region 2 with fail
 refine wp_gen (fun W' => RN w W' (rnA1 o v0 0) (w.heap.size + 2)) RN.start ?_
 intro W hW
 have HW0 : Hid _ := hW
 have a0 : W.cell? ⟨w.heap.size, 0, none⟩ = some (.int .i64 o.kd) := row_cell hW.b 0
 have al := row_lt hW.b
 have pl := row_lt hW.p
 clear hW
 go_wp2_with (go_at_call 117; refine (ruleOf_me o.kd ⟨lo, hi', 1, has, gives, leaves, ends⟩ _ HR.out).mono ?_; rintro e w1 ⟨rfl, h1⟩; have HW1 : Hid _ := HW0.out.below h1; have pl1 := row_lt HW1.out.p; clear h1)
 clear a0 al pl
 go_loopw [18] (fun i' wr => ∃ j : Nat, i' = .int .i64 j ∧ j ≤ 1 ∧ RN w wr (rnA1 o v0 j) (w.heap.size + 2)) (fun i _ => 1 - (intOf i).toNat)
 case atStart => exact ⟨0, rfl, by omega, HW1.out⟩
 case round =>
  obtain ⟨j, rfl, hj, hW⟩ := hrel
  have HWr : Hid _ := hW
  have l6 := row_lt hW.p
  have lb := row_lt hW.b
  have lr := row_lt hW.r
  have c0 : wr.cell? ⟨w.heap.size + 2, 0, none⟩ = some (.pointer (some ⟨w.heap.size, 2, none⟩)) := row_cell hW.p 0
  have c1 : wr.cell? ⟨w.heap.size + 2, 1, none⟩ = some (.pointer (some ⟨w.heap.size, 3, none⟩)) := row_cell hW.p 1
  have c2 : wr.cell? ⟨w.heap.size + 2, 2, none⟩ = some (.pointer (some ⟨w.heap.size, 4, none⟩)) := row_cell hW.p 2
  clear hW HW1 HW0
  rcases (by omega : j = 0 ∨ j = 1) with rfl | rfl
  ·have b1 : (o.a : Int) < (N : Int) := by have := HI0.out; omega
   have b0 : (0 : Int) ≤ (o.a : Int) := by omega
   have tq : wr.cell? ⟨H, o.a, none⟩ = some (.int .i64 v0) := (HWr.out.bel.cell (p := ⟨H, o.a, none⟩) HLH.out).trans HTC0.out
   have lH : H < wr.heap.size := Nat.lt_of_lt_of_le HLH.out HWr.out.bel.size
   have cb : wr.cell? ⟨w.heap.size, 2, none⟩ = some (.int .i64 o.a) := row_cell HWr.out.b 2
   have fb := row_fr HWr.out.b
   go_wp2
   go_round
   case rel => exact ⟨1, by go_num, by omega, HWr.out.set 2 _ rfl⟩
   case measure => simp [intOf]
  ·have B : Hid (wr.heap[w.heap.size]? = some (.cells #[.int .i64 o.kd, .int .i64 o.w, .int .i64 v0, .int .i64 o.b, .int .i64 o.c, .int .u32 o.k, .int .i64 o.n] 67)) := HWr.out.b
   have d0 := row_cell B.out 0
   have d1 := row_cell B.out 1
   have d2 := row_cell B.out 2
   have d3 := row_cell B.out 3
   have d4 := row_cell B.out 4
   have d5 := row_cell B.out 5
   have d6 := row_cell B.out 6
   have r0 := row_cell HWr.out.r 0
   have r1 := row_cell HWr.out.r 1
   have r2 := row_cell HWr.out.r 2
   have r3 := row_cell HWr.out.r 3
   have r4 := row_cell HWr.out.r 4
   have r5 := row_cell HWr.out.r 5
   have r6 := row_cell HWr.out.r 6
   have rf := row_fr HWr.out.r
   go_wp2
   exact bodyPost_ret (v := .agg #[.int .i64 o.kd, .int .i64 o.w, .int .i64 v0, .int .i64 o.b, .int .i64 o.c, .int .u32 o.k, .int .i64 o.n]) (by simp [results, Try.results122, go_sem, r0, r1, r2, r3, r4, r5, r6]) rfl ⟨rfl, by
    have hB := HWr.out.bel
    (repeat first | with_reducible exact Below.refl _ _ | with_reducible exact hB | with_reducible refine Below.drew ?_ | with_reducible refine below_drewN ?_ _ | with_reducible refine Below.alloc ?_ (by first | (simp; done) | (simp; omega) | omega) _ | with_reducible refine Below.setCell ?_ (by first | (simp; done) | (simp; omega) | omega) _)⟩
def rnA2 (o : ON) (v0 : Nat) (v1 : Nat) (j : Nat) : Array Value := match j with | 0 => #[.int .i64 o.kd, .int .i64 o.w, .int .i64 o.a, .int .i64 o.b, .int .i64 o.c, .int .u32 o.k, .int .i64 o.n] | 1 => #[.int .i64 o.kd, .int .i64 o.w, .int .i64 v0, .int .i64 o.b, .int .i64 o.c, .int .u32 o.k, .int .i64 o.n] | _ => #[.int .i64 o.kd, .int .i64 o.w, .int .i64 v0, .int .i64 v1, .int .i64 o.c, .int .u32 o.k, .int .i64 o.n]
theorem ren_2 (H N cap : Nat) (T_ : Nat → Option Nat) (o : ON) (R : RU) (w : World) (hT : w.rowIs H 3 N (fun i => .int .i64 (oI (T_ i)))) (hR : ruT o.kd = R) (hK : R.takes = 2) (hi : ∀ q, q < 2 → arg o q < N) (ht : ∀ q, q < 2 → ∃ v, T_ (arg o q) = some v) :
  Calls Try.prog 122 #[.agg #[.int .i64 o.kd, .int .i64 o.w, .int .i64 o.a, .int .i64 o.b, .int .i64 o.c, .int .u32 o.k, .int .i64 o.n], .slice (some ⟨H, 0, none⟩) N cap] w fun e w' => e = .returned (.agg #[.int .i64 (ren o T_).kd, .int .i64 (ren o T_).w, .int .i64 (ren o T_).a, .int .i64 (ren o T_).b, .int .i64 (ren o T_).c, .int .u32 (ren o T_).k, .int .i64 (ren o T_).n]) ∧ Below w.heap.size w w' := by
 have HR : Hid (ru (o.kd : Int) = R) := show _ = _ by rw [ru_nat]; exact hR
 have hN : tkN o.kd = 2 := show _ = _ by unfold tkN; rw [hR, hK]; rfl
 have HLH : Hid (H < w.heap.size) := hT.lt
 obtain ⟨v0, HT0⟩ : ∃ v, Hid (T_ o.a = some v) := ht 0 (by omega)
 have HI0 : Hid (o.a < N) := hi 0 (by omega)
 have HTC0 : Hid (w.cell? ⟨H, o.a, none⟩ = some (.int .i64 v0)) := show _ = _ by (have h := hT.cell HI0.out; simpa [HT0.out, oI] using h)
 obtain ⟨v1, HT1⟩ : ∃ v, Hid (T_ o.b = some v) := ht 1 (by omega)
 have HI1 : Hid (o.b < N) := hi 1 (by omega)
 have HTC1 : Hid (w.cell? ⟨H, o.b, none⟩ = some (.int .i64 v1)) := show _ = _ by (have h := hT.cell HI1.out; simpa [HT1.out, oI] using h)
 have HE : Hid (ren o T_ = ⟨o.kd, o.w, v0, v1, o.c, o.k, o.n⟩) := show _ = _ by
  unfold ren
  rw [hN]
  simp [HT0.out, HT1.out]
 rw [HE.out]
 obtain ⟨lo, hi', takes, has, gives, leaves, ends⟩ := R
 obtain rfl : takes = 2 := hK
 have HF := ru_takes ⟨lo, hi', 2, has, gives, leaves, ends⟩
 clear hT hi ht hR hN
 go_enter Try.func122, Try.ntmps122
 go_upto_region 2 with fail
 refine wp_gen (fun W' => RN w W' (rnA2 o v0 v1 0) (w.heap.size + 2)) RN.start ?_
 intro W hW
 have HW0 : Hid _ := hW
 have a0 : W.cell? ⟨w.heap.size, 0, none⟩ = some (.int .i64 o.kd) := row_cell hW.b 0
 have al := row_lt hW.b
 have pl := row_lt hW.p
 clear hW
 go_wp2_with (go_at_call 117; refine (ruleOf_me o.kd ⟨lo, hi', 2, has, gives, leaves, ends⟩ _ HR.out).mono ?_; rintro e w1 ⟨rfl, h1⟩; have HW1 : Hid _ := HW0.out.below h1; have pl1 := row_lt HW1.out.p; clear h1)
 clear a0 al pl
 go_loopw [18] (fun i' wr => ∃ j : Nat, i' = .int .i64 j ∧ j ≤ 2 ∧ RN w wr (rnA2 o v0 v1 j) (w.heap.size + 2)) (fun i _ => 2 - (intOf i).toNat)
 case atStart => exact ⟨0, rfl, by omega, HW1.out⟩
 case round =>
  obtain ⟨j, rfl, hj, hW⟩ := hrel
  have HWr : Hid _ := hW
  have l6 := row_lt hW.p
  have lb := row_lt hW.b
  have lr := row_lt hW.r
  have c0 : wr.cell? ⟨w.heap.size + 2, 0, none⟩ = some (.pointer (some ⟨w.heap.size, 2, none⟩)) := row_cell hW.p 0
  have c1 : wr.cell? ⟨w.heap.size + 2, 1, none⟩ = some (.pointer (some ⟨w.heap.size, 3, none⟩)) := row_cell hW.p 1
  have c2 : wr.cell? ⟨w.heap.size + 2, 2, none⟩ = some (.pointer (some ⟨w.heap.size, 4, none⟩)) := row_cell hW.p 2
  clear hW HW1 HW0
  rcases (by omega : j = 0 ∨ j = 1 ∨ j = 2) with rfl | rfl | rfl
  ·have b1 : (o.a : Int) < (N : Int) := by have := HI0.out; omega
   have b0 : (0 : Int) ≤ (o.a : Int) := by omega
   have tq : wr.cell? ⟨H, o.a, none⟩ = some (.int .i64 v0) := (HWr.out.bel.cell (p := ⟨H, o.a, none⟩) HLH.out).trans HTC0.out
   have lH : H < wr.heap.size := Nat.lt_of_lt_of_le HLH.out HWr.out.bel.size
   have cb : wr.cell? ⟨w.heap.size, 2, none⟩ = some (.int .i64 o.a) := row_cell HWr.out.b 2
   have fb := row_fr HWr.out.b
   go_wp2
   go_round
   case rel => exact ⟨1, by go_num, by omega, HWr.out.set 2 _ rfl⟩
   case measure => simp [intOf]
  ·have b1 : (o.b : Int) < (N : Int) := by have := HI1.out; omega
   have b0 : (0 : Int) ≤ (o.b : Int) := by omega
   have tq : wr.cell? ⟨H, o.b, none⟩ = some (.int .i64 v1) := (HWr.out.bel.cell (p := ⟨H, o.b, none⟩) HLH.out).trans HTC1.out
   have lH : H < wr.heap.size := Nat.lt_of_lt_of_le HLH.out HWr.out.bel.size
   have cb : wr.cell? ⟨w.heap.size, 3, none⟩ = some (.int .i64 o.b) := row_cell HWr.out.b 3
   have fb := row_fr HWr.out.b
   go_wp2
   go_round
   case rel => exact ⟨2, by go_num, by omega, HWr.out.set 3 _ rfl⟩
   case measure => simp [intOf]
  ·have B : Hid (wr.heap[w.heap.size]? = some (.cells #[.int .i64 o.kd, .int .i64 o.w, .int .i64 v0, .int .i64 v1, .int .i64 o.c, .int .u32 o.k, .int .i64 o.n] 67)) := HWr.out.b
   have d0 := row_cell B.out 0
   have d1 := row_cell B.out 1
   have d2 := row_cell B.out 2
   have d3 := row_cell B.out 3
   have d4 := row_cell B.out 4
   have d5 := row_cell B.out 5
   have d6 := row_cell B.out 6
   have r0 := row_cell HWr.out.r 0
   have r1 := row_cell HWr.out.r 1
   have r2 := row_cell HWr.out.r 2
   have r3 := row_cell HWr.out.r 3
   have r4 := row_cell HWr.out.r 4
   have r5 := row_cell HWr.out.r 5
   have r6 := row_cell HWr.out.r 6
   have rf := row_fr HWr.out.r
   go_wp2
   exact bodyPost_ret (v := .agg #[.int .i64 o.kd, .int .i64 o.w, .int .i64 v0, .int .i64 v1, .int .i64 o.c, .int .u32 o.k, .int .i64 o.n]) (by simp [results, Try.results122, go_sem, r0, r1, r2, r3, r4, r5, r6]) rfl ⟨rfl, by
    have hB := HWr.out.bel
    (repeat first | with_reducible exact Below.refl _ _ | with_reducible exact hB | with_reducible refine Below.drew ?_ | with_reducible refine below_drewN ?_ _ | with_reducible refine Below.alloc ?_ (by first | (simp; done) | (simp; omega) | omega) _ | with_reducible refine Below.setCell ?_ (by first | (simp; done) | (simp; omega) | omega) _)⟩
def rnA3 (o : ON) (v0 : Nat) (v1 : Nat) (v2 : Nat) (j : Nat) : Array Value := match j with | 0 => #[.int .i64 o.kd, .int .i64 o.w, .int .i64 o.a, .int .i64 o.b, .int .i64 o.c, .int .u32 o.k, .int .i64 o.n] | 1 => #[.int .i64 o.kd, .int .i64 o.w, .int .i64 v0, .int .i64 o.b, .int .i64 o.c, .int .u32 o.k, .int .i64 o.n] | 2 => #[.int .i64 o.kd, .int .i64 o.w, .int .i64 v0, .int .i64 v1, .int .i64 o.c, .int .u32 o.k, .int .i64 o.n] | _ => #[.int .i64 o.kd, .int .i64 o.w, .int .i64 v0, .int .i64 v1, .int .i64 v2, .int .u32 o.k, .int .i64 o.n]
theorem ren_3 (H N cap : Nat) (T_ : Nat → Option Nat) (o : ON) (R : RU) (w : World) (hT : w.rowIs H 3 N (fun i => .int .i64 (oI (T_ i)))) (hR : ruT o.kd = R) (hK : R.takes = 3) (hi : ∀ q, q < 3 → arg o q < N) (ht : ∀ q, q < 3 → ∃ v, T_ (arg o q) = some v) :
  Calls Try.prog 122 #[.agg #[.int .i64 o.kd, .int .i64 o.w, .int .i64 o.a, .int .i64 o.b, .int .i64 o.c, .int .u32 o.k, .int .i64 o.n], .slice (some ⟨H, 0, none⟩) N cap] w fun e w' => e = .returned (.agg #[.int .i64 (ren o T_).kd, .int .i64 (ren o T_).w, .int .i64 (ren o T_).a, .int .i64 (ren o T_).b, .int .i64 (ren o T_).c, .int .u32 (ren o T_).k, .int .i64 (ren o T_).n]) ∧ Below w.heap.size w w' := by
 have HR : Hid (ru (o.kd : Int) = R) := show _ = _ by rw [ru_nat]; exact hR
 have hN : tkN o.kd = 3 := show _ = _ by unfold tkN; rw [hR, hK]; rfl
 have HLH : Hid (H < w.heap.size) := hT.lt
 obtain ⟨v0, HT0⟩ : ∃ v, Hid (T_ o.a = some v) := ht 0 (by omega)
 have HI0 : Hid (o.a < N) := hi 0 (by omega)
 have HTC0 : Hid (w.cell? ⟨H, o.a, none⟩ = some (.int .i64 v0)) := show _ = _ by (have h := hT.cell HI0.out; simpa [HT0.out, oI] using h)
 obtain ⟨v1, HT1⟩ : ∃ v, Hid (T_ o.b = some v) := ht 1 (by omega)
 have HI1 : Hid (o.b < N) := hi 1 (by omega)
 have HTC1 : Hid (w.cell? ⟨H, o.b, none⟩ = some (.int .i64 v1)) := show _ = _ by (have h := hT.cell HI1.out; simpa [HT1.out, oI] using h)
 obtain ⟨v2, HT2⟩ : ∃ v, Hid (T_ o.c = some v) := ht 2 (by omega)
 have HI2 : Hid (o.c < N) := hi 2 (by omega)
 have HTC2 : Hid (w.cell? ⟨H, o.c, none⟩ = some (.int .i64 v2)) := show _ = _ by (have h := hT.cell HI2.out; simpa [HT2.out, oI] using h)
 have HE : Hid (ren o T_ = ⟨o.kd, o.w, v0, v1, v2, o.k, o.n⟩) := show _ = _ by
  unfold ren
  rw [hN]
  simp [HT0.out, HT1.out, HT2.out]
 rw [HE.out]
 obtain ⟨lo, hi', takes, has, gives, leaves, ends⟩ := R
 obtain rfl : takes = 3 := hK
 have HF := ru_takes ⟨lo, hi', 3, has, gives, leaves, ends⟩
 clear hT hi ht hR hN
 go_enter Try.func122, Try.ntmps122
 go_upto_region 2 with fail
 refine wp_gen (fun W' => RN w W' (rnA3 o v0 v1 v2 0) (w.heap.size + 2)) RN.start ?_
 intro W hW
 have HW0 : Hid _ := hW
 have a0 : W.cell? ⟨w.heap.size, 0, none⟩ = some (.int .i64 o.kd) := row_cell hW.b 0
 have al := row_lt hW.b
 have pl := row_lt hW.p
 clear hW
 go_wp2_with (go_at_call 117; refine (ruleOf_me o.kd ⟨lo, hi', 3, has, gives, leaves, ends⟩ _ HR.out).mono ?_; rintro e w1 ⟨rfl, h1⟩; have HW1 : Hid _ := HW0.out.below h1; have pl1 := row_lt HW1.out.p; clear h1)
 clear a0 al pl
 go_loopw [18] (fun i' wr => ∃ j : Nat, i' = .int .i64 j ∧ j ≤ 3 ∧ RN w wr (rnA3 o v0 v1 v2 j) (w.heap.size + 2)) (fun i _ => 3 - (intOf i).toNat)
 case atStart => exact ⟨0, rfl, by omega, HW1.out⟩
 case round =>
  obtain ⟨j, rfl, hj, hW⟩ := hrel
  have HWr : Hid _ := hW
  have l6 := row_lt hW.p
  have lb := row_lt hW.b
  have lr := row_lt hW.r
  have c0 : wr.cell? ⟨w.heap.size + 2, 0, none⟩ = some (.pointer (some ⟨w.heap.size, 2, none⟩)) := row_cell hW.p 0
  have c1 : wr.cell? ⟨w.heap.size + 2, 1, none⟩ = some (.pointer (some ⟨w.heap.size, 3, none⟩)) := row_cell hW.p 1
  have c2 : wr.cell? ⟨w.heap.size + 2, 2, none⟩ = some (.pointer (some ⟨w.heap.size, 4, none⟩)) := row_cell hW.p 2
  clear hW HW1 HW0
  rcases (by omega : j = 0 ∨ j = 1 ∨ j = 2 ∨ j = 3) with rfl | rfl | rfl | rfl
  ·have b1 : (o.a : Int) < (N : Int) := by have := HI0.out; omega
   have b0 : (0 : Int) ≤ (o.a : Int) := by omega
   have tq : wr.cell? ⟨H, o.a, none⟩ = some (.int .i64 v0) := (HWr.out.bel.cell (p := ⟨H, o.a, none⟩) HLH.out).trans HTC0.out
   have lH : H < wr.heap.size := Nat.lt_of_lt_of_le HLH.out HWr.out.bel.size
   have cb : wr.cell? ⟨w.heap.size, 2, none⟩ = some (.int .i64 o.a) := row_cell HWr.out.b 2
   have fb := row_fr HWr.out.b
   go_wp2
   go_round
   case rel => exact ⟨1, by go_num, by omega, HWr.out.set 2 _ rfl⟩
   case measure => simp [intOf]
  ·have b1 : (o.b : Int) < (N : Int) := by have := HI1.out; omega
   have b0 : (0 : Int) ≤ (o.b : Int) := by omega
   have tq : wr.cell? ⟨H, o.b, none⟩ = some (.int .i64 v1) := (HWr.out.bel.cell (p := ⟨H, o.b, none⟩) HLH.out).trans HTC1.out
   have lH : H < wr.heap.size := Nat.lt_of_lt_of_le HLH.out HWr.out.bel.size
   have cb : wr.cell? ⟨w.heap.size, 3, none⟩ = some (.int .i64 o.b) := row_cell HWr.out.b 3
   have fb := row_fr HWr.out.b
   go_wp2
   go_round
   case rel => exact ⟨2, by go_num, by omega, HWr.out.set 3 _ rfl⟩
   case measure => simp [intOf]
  ·have b1 : (o.c : Int) < (N : Int) := by have := HI2.out; omega
   have b0 : (0 : Int) ≤ (o.c : Int) := by omega
   have tq : wr.cell? ⟨H, o.c, none⟩ = some (.int .i64 v2) := (HWr.out.bel.cell (p := ⟨H, o.c, none⟩) HLH.out).trans HTC2.out
   have lH : H < wr.heap.size := Nat.lt_of_lt_of_le HLH.out HWr.out.bel.size
   have cb : wr.cell? ⟨w.heap.size, 4, none⟩ = some (.int .i64 o.c) := row_cell HWr.out.b 4
   have fb := row_fr HWr.out.b
   go_wp2
   go_round
   case rel => exact ⟨3, by go_num, by omega, HWr.out.set 4 _ rfl⟩
   case measure => simp [intOf]
  ·have B : Hid (wr.heap[w.heap.size]? = some (.cells #[.int .i64 o.kd, .int .i64 o.w, .int .i64 v0, .int .i64 v1, .int .i64 v2, .int .u32 o.k, .int .i64 o.n] 67)) := HWr.out.b
   have d0 := row_cell B.out 0
   have d1 := row_cell B.out 1
   have d2 := row_cell B.out 2
   have d3 := row_cell B.out 3
   have d4 := row_cell B.out 4
   have d5 := row_cell B.out 5
   have d6 := row_cell B.out 6
   have r0 := row_cell HWr.out.r 0
   have r1 := row_cell HWr.out.r 1
   have r2 := row_cell HWr.out.r 2
   have r3 := row_cell HWr.out.r 3
   have r4 := row_cell HWr.out.r 4
   have r5 := row_cell HWr.out.r 5
   have r6 := row_cell HWr.out.r 6
   have rf := row_fr HWr.out.r
   go_wp2
   exact bodyPost_ret (v := .agg #[.int .i64 o.kd, .int .i64 o.w, .int .i64 v0, .int .i64 v1, .int .i64 v2, .int .u32 o.k, .int .i64 o.n]) (by simp [results, Try.results122, go_sem, r0, r1, r2, r3, r4, r5, r6]) rfl ⟨rfl, by
    have hB := HWr.out.bel
    (repeat first | with_reducible exact Below.refl _ _ | with_reducible exact hB | with_reducible refine Below.drew ?_ | with_reducible refine below_drewN ?_ _ | with_reducible refine Below.alloc ?_ (by first | (simp; done) | (simp; omega) | omega) _ | with_reducible refine Below.setCell ?_ (by first | (simp; done) | (simp; omega) | omega) _)⟩
theorem ren_any (H N cap : Nat) (T_ : Nat → Option Nat) (o : ON) (w : World) (hT : w.rowIs H 3 N (fun i => .int .i64 (oI (T_ i)))) (hi : ∀ q, q < tkN o.kd → arg o q < N) (ht : ∀ q, q < tkN o.kd → ∃ v, T_ (arg o q) = some v) :
  Calls Try.prog 122 #[.agg #[.int .i64 o.kd, .int .i64 o.w, .int .i64 o.a, .int .i64 o.b, .int .i64 o.c, .int .u32 o.k, .int .i64 o.n], .slice (some ⟨H, 0, none⟩) N cap] w fun e w' => e = .returned (.agg #[.int .i64 (ren o T_).kd, .int .i64 (ren o T_).w, .int .i64 (ren o T_).a, .int .i64 (ren o T_).b, .int .i64 (ren o T_).c, .int .u32 (ren o T_).k, .int .i64 (ren o T_).n]) ∧ Below w.heap.size w w' := by
 obtain ⟨h3, h⟩ := tkN_le o.kd
 rcases (by omega : tkN o.kd = 0 ∨ tkN o.kd = 1 ∨ tkN o.kd = 2 ∨ tkN o.kd = 3) with e | e | e | e
 ·exact ren_0 H N cap T_ o _ w hT rfl (by rw [h, e]; rfl) (e ▸ hi) (e ▸ ht)
 ·exact ren_1 H N cap T_ o _ w hT rfl (by rw [h, e]; rfl) (e ▸ hi) (e ▸ ht)
 ·exact ren_2 H N cap T_ o _ w hT rfl (by rw [h, e]; rfl) (e ▸ hi) (e ▸ ht)
 ·exact ren_3 H N cap T_ o _ w hT rfl (by rw [h, e]; rfl) (e ▸ hi) (e ▸ ht)
end Go.Proofs.Ytkgbjpdoigdjnab
