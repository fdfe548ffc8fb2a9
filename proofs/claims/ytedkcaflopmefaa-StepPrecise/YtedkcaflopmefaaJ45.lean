import Derived.Test.YtedkcaflopmefaaJ38
import Derived.Test.YtedkcaflopmefaaJ16
import Derived.Test.YtedkcaflopmefaaJ40
namespace Go.Proofs.Ytedkcaflopmefaa
open Go.RowKit
set_option maxRecDepth 100000
set_option linter.unusedVariables false
set_option linter.unusedSimpArgs false

set_option maxHeartbeats 1000000 in
theorem load3 (U X : Nat) (m : MS) (t : GS) (D S : Nat) (imm : Nat) (w : World) (H : TuW w w U X m t) (ht : t.Ok) (hi : imm < 4294967296) (hS : S < 8) (hD : D < 8) (hm : m.Ok) :
    Calls Try.prog 134 #[.pointer (some ⟨U, 0, none⟩), insA 30 D S 3 imm] w fun e w' => e = .returned (stVV 5 (badN m 1 (w32 ((t.R S : Int) + imm)) 2)) ∧ TuW w w' U X m (t.setR D (sx 3 (ldN m (w32 ((t.R S : Int) + imm)) 2))) := by
  have HH : Hid _ := H
  have HT : Hid _ := ht
  have u0 := H.hU
  have u1 : U < w.heap.size + 1 := by omega
  have u2 : U < w.heap.size + 1 + 1 := by omega
  have u3 : U < w.heap.size + 1 + 1 + 1 := by omega
  have u4 : U < w.heap.size + 1 + 1 + 1 + 1 := by omega
  have rS := tu_reg H.bU S hS
  have rD := tu_reg H.bU D hD
  have fD := tu_fr H.bU (1 + D)
  have cM := tu_m H.bU
  have hSi : (S : Int) < 8 := by omega
  have hRS := ht.r S
  have hDi : (D : Int) < 8 := by omega
  have hRD := ht.r D
  have hp := ht.p
  have hf := ht.f
  have HM : Hid _ := hm
  have HA : Hid _ := w32_lt ((t.R S : Int) + imm)
  have u5 : U < w.heap.size + 1 + 1 + 1 + 1 + 1 := by omega
  have hvl := ldN_lt hm (w32 ((t.R S : Int) + imm)) 2
  have hv1 := ldN_2 hm (w32 ((t.R S : Int) + imm))
  have hsx := sx_3 (ldN m (w32 ((t.R S : Int) + imm)) 2) hv1
  clear hm
  clear H ht
  go_enter Try.func134, Try.ntmps134
  go_upto_region 3 with fail
  go_region_held3 (fun w' => w'.cell? ⟨U, 0, none⟩ = some (.pointer (some ⟨X, 0, none⟩)) ∧ w'.cell? ⟨w.heap.size, 0, none⟩ = some (.int .i64 30) ∧ w'.cell? ⟨w.heap.size, 1, none⟩ = some (.int .i64 D) ∧ w'.cell? ⟨w.heap.size, 2, none⟩ = some (.int .i64 S) ∧ w'.cell? ⟨w.heap.size, 3, none⟩ = some (.int .i64 3) ∧ w'.cell? ⟨w.heap.size, 4, none⟩ = some (.int .u32 imm) ∧ w'.cell? ⟨w.heap.size + 1 + 1 + 1, 0, none⟩ = some (.int .i64 2)) (first | (simp [go_sem, cM2, Ia2, Ib2, Ic2, Id2, Ie2, Ra2, l2, l21, Il2, Il21, Rl2, Rl21, Ql2]; done) | (simp [go_sem, cM2, Ia2, Ib2, Ic2, Id2, Ie2, Ra2, l2, l21, Il2, Il21, Rl2, Rl21]; done) | (simp [go_sem, cM1, Ia1, Ib1, Ic1, Id1, Ie1, Ra1, l1, l11, Il1, Il11, Rl1, Rl11]; done) | (simp [go_sem, cM, u0, u1, u2, u3, u4, u5]; done))
    (first | (go_at_call 163; refine (at_any U X t 30 D S 3 imm _ ?_ hS HT.out hi).mono ?_; (focus (exact (show TuW w _ U X m t from (by have hB := HH.out; (repeat (first | with_reducible exact hB | with_reducible refine TuW.drew ?_ | with_reducible refine TuW.new ?_ (by omega) _ _ | with_reducible refine TuW.alloc ?_ _)))).bU)); rintro e w1 ⟨rfl, hB1⟩; have HW1 : Hid (TuW w w1 U X m t) := TuW.call (by have hB := HH.out; (repeat (first | with_reducible exact hB | with_reducible refine TuW.drew ?_ | with_reducible refine TuW.new ?_ (by omega) _ _ | with_reducible refine TuW.alloc ?_ _))) hB1; have rD1 := tu_reg HW1.out.bU D hD; have fD1 := tu_fr HW1.out.bU (1 + D); have cM1 := tu_m HW1.out.bU; have l1 := HW1.out.lu; have l11 : U < w1.heap.size + 1 := Nat.lt_succ_of_lt l1; have HP1 : Hid (Own w w1 (w.heap.size + 1) (stopB 0 0)) := Own.call (by (repeat (first | with_reducible refine Own.drew ?_ | (with_reducible refine Own.last ?_ ?_; (focus (simp; done)); (focus omega)) | with_reducible refine Own.alloc ?_ _ | with_reducible refine Own.old ?_ u0 _ _ | with_reducible refine Own.other ?_ (by omega) _ _))) hB1; obtain ⟨Pa1, Pb1, Pc1, Pd1⟩ := HP1.out.stop; have Pl1 := HP1.out.lt; have HR1 : Hid (Own w w1 (w.heap.size + 1 + 1 + 1) (.cells #[.int .i64 2, .bool true] 222)) := Own.call (by (repeat (first | with_reducible refine Own.drew ?_ | (with_reducible refine Own.last ?_ ?_; (focus (simp; done)); (focus omega)) | with_reducible refine Own.alloc ?_ _ | with_reducible refine Own.old ?_ u0 _ _ | with_reducible refine Own.other ?_ (by omega) _ _))) hB1; have Ra1 : w1.cell? ⟨w.heap.size + 1 + 1 + 1, 0, none⟩ = _ := cell_of_row _ _ 0 _ _ (0, 0) HR1.out.b; have Rb1 : w1.cell? ⟨w.heap.size + 1 + 1 + 1, 1, none⟩ = _ := cell_of_row _ _ 1 _ _ (0, 0) HR1.out.b; simp at Ra1 Rb1; have Rl1 := HR1.out.lt; have HI1 : Hid (Own w w1 (w.heap.size) (.cells #[.int .i64 30, .int .i64 D, .int .i64 S, .int .i64 3, .int .u32 imm] 26)) := Own.call (by (repeat (first | with_reducible refine Own.drew ?_ | (with_reducible refine Own.last ?_ ?_; (focus (simp; done)); (focus omega)) | with_reducible refine Own.alloc ?_ _ | with_reducible refine Own.old ?_ u0 _ _ | with_reducible refine Own.other ?_ (by omega) _ _))) hB1; obtain ⟨Ia1, Ib1, Ic1, Id1, Ie1⟩ := own_ins5 HI1.out; have Il1 := HI1.out.lt; have Il11 := Nat.lt_succ_of_lt Il1; have Rl11 := Nat.lt_succ_of_lt Rl1; (try (refine (fun (hQ1 : Own w w1 (w.heap.size + 1 + 1 + 1 + 1) (stopB 0 0)) => ?_) (Own.call ?_ hB1); rotate_left; (focus ((repeat (first | with_reducible refine Own.drew ?_ | (with_reducible refine Own.last ?_ ?_; (focus (first | rfl | (simp; done))); (focus (first | exact HW1.out.big | omega))) | with_reducible refine Own.alloc ?_ _)); done)); have HQ1 : Hid _ := hQ1; clear hQ1; obtain ⟨Qa1, Qb1, Qc1, Qd1⟩ := HQ1.out.stop; have Ql1 := HQ1.out.lt)); clear hB1) | (go_at_call 73; refine (pload_me X (w32 ((t.R S : Int) + imm)) 2 m _ HA.out HM.out ?_).mono ?_; (focus (exact (show TuW w _ U X m t from (by have hB := HW1.out; (repeat (first | with_reducible exact hB | with_reducible refine TuW.drew ?_ | with_reducible refine TuW.new ?_ (by omega) _ _ | with_reducible refine TuW.alloc ?_ _)))).pm)); rintro e w2 ⟨rfl, hB1⟩; have HW2 : Hid (TuW w w2 U X m t) := TuW.call (by have hB := HW1.out; (repeat (first | with_reducible exact hB | with_reducible refine TuW.drew ?_ | with_reducible refine TuW.new ?_ (by omega) _ _ | with_reducible refine TuW.alloc ?_ _))) hB1; have rD2 := tu_reg HW2.out.bU D hD; have fD2 := tu_fr HW2.out.bU (1 + D); have cM2 := tu_m HW2.out.bU; have l2 := HW2.out.lu; have l21 : U < w2.heap.size + 1 := Nat.lt_succ_of_lt l2; have HP2 : Hid (Own w w2 (w.heap.size + 1) (stopB 0 0)) := Own.call (by (repeat (first | with_reducible exact HP1.out | with_reducible refine Own.drew ?_ | (with_reducible refine Own.last ?_ ?_; (focus (simp; done)); (focus omega)) | with_reducible refine Own.alloc ?_ _ | with_reducible refine Own.old ?_ u0 _ _ | with_reducible refine Own.other ?_ (by omega) _ _))) hB1; obtain ⟨Pa2, Pb2, Pc2, Pd2⟩ := HP2.out.stop; have Pl2 := HP2.out.lt; have HR2 : Hid (Own w w2 (w.heap.size + 1 + 1 + 1) (.cells #[.int .i64 2, .bool true] 222)) := Own.call (by (repeat (first | with_reducible exact HR1.out | with_reducible refine Own.drew ?_ | (with_reducible refine Own.last ?_ ?_; (focus (simp; done)); (focus omega)) | with_reducible refine Own.alloc ?_ _ | with_reducible refine Own.old ?_ u0 _ _ | with_reducible refine Own.other ?_ (by omega) _ _))) hB1; have Ra2 : w2.cell? ⟨w.heap.size + 1 + 1 + 1, 0, none⟩ = _ := cell_of_row _ _ 0 _ _ (0, 0) HR2.out.b; have Rb2 : w2.cell? ⟨w.heap.size + 1 + 1 + 1, 1, none⟩ = _ := cell_of_row _ _ 1 _ _ (0, 0) HR2.out.b; simp at Ra2 Rb2; have Rl2 := HR2.out.lt; have HI2 : Hid (Own w w2 (w.heap.size) (.cells #[.int .i64 30, .int .i64 D, .int .i64 S, .int .i64 3, .int .u32 imm] 26)) := Own.call (by (repeat (first | with_reducible exact HI1.out | with_reducible refine Own.drew ?_ | (with_reducible refine Own.last ?_ ?_; (focus (simp; done)); (focus omega)) | with_reducible refine Own.alloc ?_ _ | with_reducible refine Own.old ?_ u0 _ _ | with_reducible refine Own.other ?_ (by omega) _ _))) hB1; obtain ⟨Ia2, Ib2, Ic2, Id2, Ie2⟩ := own_ins5 HI2.out; have Il2 := HI2.out.lt; have Il21 := Nat.lt_succ_of_lt Il2; have Pl21 := Nat.lt_succ_of_lt Pl2; have Rl21 := Nat.lt_succ_of_lt Rl2; (first | (refine (fun (hQ2 : Own w w2 (w.heap.size + 1 + 1 + 1 + 1) (stopB 0 0)) => ?_) (Own.call ?_ hB1); rotate_left; (focus ((repeat (first | with_reducible exact HQ1.out | with_reducible refine Own.drew ?_ | (with_reducible refine Own.last ?_ ?_; (focus (first | rfl | (simp; done))); (focus (first | exact HW1.out.big | omega))) | with_reducible refine Own.alloc ?_ _)); done)); have HQ2 : Hid _ := hQ2; clear hQ2; obtain ⟨Qa2, Qb2, Qc2, Qd2⟩ := HQ2.out.stop; have Ql2 := HQ2.out.lt) | (refine (fun (hQ2 : Own w w2 (w1.heap.size) (stopB 0 0)) => ?_) (Own.call ?_ hB1); rotate_left; (focus ((repeat (first | with_reducible refine Own.drew ?_ | (with_reducible refine Own.last ?_ ?_; (focus (first | rfl | (simp; done))); (focus (first | exact HW1.out.big | omega))) | with_reducible refine Own.alloc ?_ _)); done)); have HQ2 : Hid _ := hQ2; clear hQ2; obtain ⟨Qa2, Qb2, Qc2, Qd2⟩ := HQ2.out.stop; have Ql2 := HQ2.out.lt) | skip); clear hB1))
  all_goals go_wp2
  all_goals go_region
  all_goals go_wp2
  all_goals exact bodyPost_ret (v := (stVV 5 (badN m 1 (w32 ((t.R S : Int) + imm)) 2))) (by first | (simp [results, Try.results134, go_sem, u0, u1, u2, u3, u4, Pa2, Pb2, Pc2, Pd2, l2, l21, Pl2, Pl21, Qa2, Qb2, Qc2, Qd2, Ql2]; done) | (simp [results, Try.results134, go_sem, u0, u1, u2, u3, u4, Pa2, Pb2, Pc2, Pd2, l2, l21, Pl2, Pl21]; done)) rfl ⟨rfl, by
    have hB := HW2.out
    (repeat (first | with_reducible exact hB | with_reducible refine TuW.drew ?_ | with_reducible refine TuW.setRn ?_ _ hD _ | with_reducible refine TuW.new ?_ (by omega) _ _ | with_reducible refine TuW.alloc ?_ _))⟩
end Go.Proofs.Ytedkcaflopmefaa

namespace Go.Proofs.Ytedkcaflopmefaa
open Go.RowKit
set_option maxRecDepth 100000
set_option linter.unusedVariables false
set_option linter.unusedSimpArgs false

set_option maxHeartbeats 1000000 in
theorem load4 (U X : Nat) (m : MS) (t : GS) (D S : Nat) (imm : Nat) (w : World) (H : TuW w w U X m t) (ht : t.Ok) (hi : imm < 4294967296) (hS : S < 8) (hD : D < 8) (hm : m.Ok) :
    Calls Try.prog 134 #[.pointer (some ⟨U, 0, none⟩), insA 30 D S 4 imm] w fun e w' => e = .returned (stVV 5 (badN m 1 (w32 ((t.R S : Int) + imm)) 4)) ∧ TuW w w' U X m (t.setR D (sx 4 (ldN m (w32 ((t.R S : Int) + imm)) 4))) := by
  have HH : Hid _ := H
  have HT : Hid _ := ht
  have u0 := H.hU
  have u1 : U < w.heap.size + 1 := by omega
  have u2 : U < w.heap.size + 1 + 1 := by omega
  have u3 : U < w.heap.size + 1 + 1 + 1 := by omega
  have u4 : U < w.heap.size + 1 + 1 + 1 + 1 := by omega
  have rS := tu_reg H.bU S hS
  have rD := tu_reg H.bU D hD
  have fD := tu_fr H.bU (1 + D)
  have cM := tu_m H.bU
  have hSi : (S : Int) < 8 := by omega
  have hRS := ht.r S
  have hDi : (D : Int) < 8 := by omega
  have hRD := ht.r D
  have hp := ht.p
  have hf := ht.f
  have HM : Hid _ := hm
  have HA : Hid _ := w32_lt ((t.R S : Int) + imm)
  have u5 : U < w.heap.size + 1 + 1 + 1 + 1 + 1 := by omega
  have hvl := ldN_lt hm (w32 ((t.R S : Int) + imm)) 4
  clear hm
  clear H ht
  go_enter Try.func134, Try.ntmps134
  go_upto_region 3 with fail
  go_region_held3 (fun w' => w'.cell? ⟨U, 0, none⟩ = some (.pointer (some ⟨X, 0, none⟩)) ∧ w'.cell? ⟨w.heap.size, 0, none⟩ = some (.int .i64 30) ∧ w'.cell? ⟨w.heap.size, 1, none⟩ = some (.int .i64 D) ∧ w'.cell? ⟨w.heap.size, 2, none⟩ = some (.int .i64 S) ∧ w'.cell? ⟨w.heap.size, 3, none⟩ = some (.int .i64 4) ∧ w'.cell? ⟨w.heap.size, 4, none⟩ = some (.int .u32 imm) ∧ w'.cell? ⟨w.heap.size + 1 + 1 + 1, 0, none⟩ = some (.int .i64 4)) (first | (simp [go_sem, cM2, Ia2, Ib2, Ic2, Id2, Ie2, Ra2, l2, l21, Il2, Il21, Rl2, Rl21, Ql2]; done) | (simp [go_sem, cM2, Ia2, Ib2, Ic2, Id2, Ie2, Ra2, l2, l21, Il2, Il21, Rl2, Rl21]; done) | (simp [go_sem, cM1, Ia1, Ib1, Ic1, Id1, Ie1, Ra1, l1, l11, Il1, Il11, Rl1, Rl11]; done) | (simp [go_sem, cM, u0, u1, u2, u3, u4, u5]; done))
    (first | (go_at_call 163; refine (at_any U X t 30 D S 4 imm _ ?_ hS HT.out hi).mono ?_; (focus (exact (show TuW w _ U X m t from (by have hB := HH.out; (repeat (first | with_reducible exact hB | with_reducible refine TuW.drew ?_ | with_reducible refine TuW.new ?_ (by omega) _ _ | with_reducible refine TuW.alloc ?_ _)))).bU)); rintro e w1 ⟨rfl, hB1⟩; have HW1 : Hid (TuW w w1 U X m t) := TuW.call (by have hB := HH.out; (repeat (first | with_reducible exact hB | with_reducible refine TuW.drew ?_ | with_reducible refine TuW.new ?_ (by omega) _ _ | with_reducible refine TuW.alloc ?_ _))) hB1; have rD1 := tu_reg HW1.out.bU D hD; have fD1 := tu_fr HW1.out.bU (1 + D); have cM1 := tu_m HW1.out.bU; have l1 := HW1.out.lu; have l11 : U < w1.heap.size + 1 := Nat.lt_succ_of_lt l1; have HP1 : Hid (Own w w1 (w.heap.size + 1) (stopB 0 0)) := Own.call (by (repeat (first | with_reducible refine Own.drew ?_ | (with_reducible refine Own.last ?_ ?_; (focus (simp; done)); (focus omega)) | with_reducible refine Own.alloc ?_ _ | with_reducible refine Own.old ?_ u0 _ _ | with_reducible refine Own.other ?_ (by omega) _ _))) hB1; obtain ⟨Pa1, Pb1, Pc1, Pd1⟩ := HP1.out.stop; have Pl1 := HP1.out.lt; have HR1 : Hid (Own w w1 (w.heap.size + 1 + 1 + 1) (.cells #[.int .i64 4, .bool false] 222)) := Own.call (by (repeat (first | with_reducible refine Own.drew ?_ | (with_reducible refine Own.last ?_ ?_; (focus (simp; done)); (focus omega)) | with_reducible refine Own.alloc ?_ _ | with_reducible refine Own.old ?_ u0 _ _ | with_reducible refine Own.other ?_ (by omega) _ _))) hB1; have Ra1 : w1.cell? ⟨w.heap.size + 1 + 1 + 1, 0, none⟩ = _ := cell_of_row _ _ 0 _ _ (0, 0) HR1.out.b; have Rb1 : w1.cell? ⟨w.heap.size + 1 + 1 + 1, 1, none⟩ = _ := cell_of_row _ _ 1 _ _ (0, 0) HR1.out.b; simp at Ra1 Rb1; have Rl1 := HR1.out.lt; have HI1 : Hid (Own w w1 (w.heap.size) (.cells #[.int .i64 30, .int .i64 D, .int .i64 S, .int .i64 4, .int .u32 imm] 26)) := Own.call (by (repeat (first | with_reducible refine Own.drew ?_ | (with_reducible refine Own.last ?_ ?_; (focus (simp; done)); (focus omega)) | with_reducible refine Own.alloc ?_ _ | with_reducible refine Own.old ?_ u0 _ _ | with_reducible refine Own.other ?_ (by omega) _ _))) hB1; obtain ⟨Ia1, Ib1, Ic1, Id1, Ie1⟩ := own_ins5 HI1.out; have Il1 := HI1.out.lt; have Il11 := Nat.lt_succ_of_lt Il1; have Rl11 := Nat.lt_succ_of_lt Rl1; (try (refine (fun (hQ1 : Own w w1 (w.heap.size + 1 + 1 + 1 + 1) (stopB 0 0)) => ?_) (Own.call ?_ hB1); rotate_left; (focus ((repeat (first | with_reducible refine Own.drew ?_ | (with_reducible refine Own.last ?_ ?_; (focus (first | rfl | (simp; done))); (focus (first | exact HW1.out.big | omega))) | with_reducible refine Own.alloc ?_ _)); done)); have HQ1 : Hid _ := hQ1; clear hQ1; obtain ⟨Qa1, Qb1, Qc1, Qd1⟩ := HQ1.out.stop; have Ql1 := HQ1.out.lt)); clear hB1) | (go_at_call 73; refine (pload_me X (w32 ((t.R S : Int) + imm)) 4 m _ HA.out HM.out ?_).mono ?_; (focus (exact (show TuW w _ U X m t from (by have hB := HW1.out; (repeat (first | with_reducible exact hB | with_reducible refine TuW.drew ?_ | with_reducible refine TuW.new ?_ (by omega) _ _ | with_reducible refine TuW.alloc ?_ _)))).pm)); rintro e w2 ⟨rfl, hB1⟩; have HW2 : Hid (TuW w w2 U X m t) := TuW.call (by have hB := HW1.out; (repeat (first | with_reducible exact hB | with_reducible refine TuW.drew ?_ | with_reducible refine TuW.new ?_ (by omega) _ _ | with_reducible refine TuW.alloc ?_ _))) hB1; have rD2 := tu_reg HW2.out.bU D hD; have fD2 := tu_fr HW2.out.bU (1 + D); have cM2 := tu_m HW2.out.bU; have l2 := HW2.out.lu; have l21 : U < w2.heap.size + 1 := Nat.lt_succ_of_lt l2; have HP2 : Hid (Own w w2 (w.heap.size + 1) (stopB 0 0)) := Own.call (by (repeat (first | with_reducible exact HP1.out | with_reducible refine Own.drew ?_ | (with_reducible refine Own.last ?_ ?_; (focus (simp; done)); (focus omega)) | with_reducible refine Own.alloc ?_ _ | with_reducible refine Own.old ?_ u0 _ _ | with_reducible refine Own.other ?_ (by omega) _ _))) hB1; obtain ⟨Pa2, Pb2, Pc2, Pd2⟩ := HP2.out.stop; have Pl2 := HP2.out.lt; have HR2 : Hid (Own w w2 (w.heap.size + 1 + 1 + 1) (.cells #[.int .i64 4, .bool false] 222)) := Own.call (by (repeat (first | with_reducible exact HR1.out | with_reducible refine Own.drew ?_ | (with_reducible refine Own.last ?_ ?_; (focus (simp; done)); (focus omega)) | with_reducible refine Own.alloc ?_ _ | with_reducible refine Own.old ?_ u0 _ _ | with_reducible refine Own.other ?_ (by omega) _ _))) hB1; have Ra2 : w2.cell? ⟨w.heap.size + 1 + 1 + 1, 0, none⟩ = _ := cell_of_row _ _ 0 _ _ (0, 0) HR2.out.b; have Rb2 : w2.cell? ⟨w.heap.size + 1 + 1 + 1, 1, none⟩ = _ := cell_of_row _ _ 1 _ _ (0, 0) HR2.out.b; simp at Ra2 Rb2; have Rl2 := HR2.out.lt; have HI2 : Hid (Own w w2 (w.heap.size) (.cells #[.int .i64 30, .int .i64 D, .int .i64 S, .int .i64 4, .int .u32 imm] 26)) := Own.call (by (repeat (first | with_reducible exact HI1.out | with_reducible refine Own.drew ?_ | (with_reducible refine Own.last ?_ ?_; (focus (simp; done)); (focus omega)) | with_reducible refine Own.alloc ?_ _ | with_reducible refine Own.old ?_ u0 _ _ | with_reducible refine Own.other ?_ (by omega) _ _))) hB1; obtain ⟨Ia2, Ib2, Ic2, Id2, Ie2⟩ := own_ins5 HI2.out; have Il2 := HI2.out.lt; have Il21 := Nat.lt_succ_of_lt Il2; have Pl21 := Nat.lt_succ_of_lt Pl2; have Rl21 := Nat.lt_succ_of_lt Rl2; (first | (refine (fun (hQ2 : Own w w2 (w.heap.size + 1 + 1 + 1 + 1) (stopB 0 0)) => ?_) (Own.call ?_ hB1); rotate_left; (focus ((repeat (first | with_reducible exact HQ1.out | with_reducible refine Own.drew ?_ | (with_reducible refine Own.last ?_ ?_; (focus (first | rfl | (simp; done))); (focus (first | exact HW1.out.big | omega))) | with_reducible refine Own.alloc ?_ _)); done)); have HQ2 : Hid _ := hQ2; clear hQ2; obtain ⟨Qa2, Qb2, Qc2, Qd2⟩ := HQ2.out.stop; have Ql2 := HQ2.out.lt) | (refine (fun (hQ2 : Own w w2 (w1.heap.size) (stopB 0 0)) => ?_) (Own.call ?_ hB1); rotate_left; (focus ((repeat (first | with_reducible refine Own.drew ?_ | (with_reducible refine Own.last ?_ ?_; (focus (first | rfl | (simp; done))); (focus (first | exact HW1.out.big | omega))) | with_reducible refine Own.alloc ?_ _)); done)); have HQ2 : Hid _ := hQ2; clear hQ2; obtain ⟨Qa2, Qb2, Qc2, Qd2⟩ := HQ2.out.stop; have Ql2 := HQ2.out.lt) | skip); clear hB1))
  all_goals go_wp2
  all_goals go_region
  all_goals go_wp2
  all_goals exact bodyPost_ret (v := (stVV 5 (badN m 1 (w32 ((t.R S : Int) + imm)) 4))) (by first | (simp [results, Try.results134, go_sem, u0, u1, u2, u3, u4, Pa2, Pb2, Pc2, Pd2, l2, l21, Pl2, Pl21, Qa2, Qb2, Qc2, Qd2, Ql2]; done) | (simp [results, Try.results134, go_sem, u0, u1, u2, u3, u4, Pa2, Pb2, Pc2, Pd2, l2, l21, Pl2, Pl21]; done)) rfl ⟨rfl, by
    rw [show sx 4 (ldN m (w32 ((t.R S : Int) + imm)) 4) = ldN m (w32 ((t.R S : Int) + imm)) 4 from rfl]
    have hB := HW2.out
    (repeat (first | with_reducible exact hB | with_reducible refine TuW.drew ?_ | with_reducible refine TuW.setRn ?_ _ hD _ | with_reducible refine TuW.new ?_ (by omega) _ _ | with_reducible refine TuW.alloc ?_ _))⟩
end Go.Proofs.Ytedkcaflopmefaa

namespace Go.Proofs.Ytedkcaflopmefaa
open Go.RowKit
set_option maxRecDepth 100000
set_option linter.unusedVariables false
set_option linter.unusedSimpArgs false

set_option maxHeartbeats 1000000 in
theorem store0 (U X : Nat) (m : MS) (t : GS) (D S : Nat) (imm : Nat) (w : World) (H : TuW w w U X m t) (ht : t.Ok) (hi : imm < 4294967296) (hS : S < 8) (hD : D < 8) (hm : m.Ok) :
    Calls Try.prog 135 #[.pointer (some ⟨U, 0, none⟩), insA 31 D S 0 imm] w fun e w' => e = .returned (stVV 6 (sto m (w32 ((t.R S : Int) + imm)) 1)) ∧ TuW w w' U X (storeT m (w32 ((t.R S : Int) + imm)) 1 (t.R D)) t := by
  have HH : Hid _ := H
  have HT : Hid _ := ht
  have u0 := H.hU
  have u1 : U < w.heap.size + 1 := by omega
  have u2 : U < w.heap.size + 1 + 1 := by omega
  have u3 : U < w.heap.size + 1 + 1 + 1 := by omega
  have u4 : U < w.heap.size + 1 + 1 + 1 + 1 := by omega
  have rS := tu_reg H.bU S hS
  have rD := tu_reg H.bU D hD
  have fD := tu_fr H.bU (1 + D)
  have cM := tu_m H.bU
  have hSi : (S : Int) < 8 := by omega
  have hRS := ht.r S
  have hDi : (D : Int) < 8 := by omega
  have hRD := ht.r D
  have hp := ht.p
  have hf := ht.f
  have HM : Hid _ := hm
  have HA : Hid _ := w32_lt ((t.R S : Int) + imm)
  clear hm
  clear H ht
  go_enter Try.func135, Try.ntmps135
  go_upto_region 2 with fail
  go_region_held3 (fun w' => w'.cell? ⟨U, 0, none⟩ = some (.pointer (some ⟨X, 0, none⟩)) ∧ w'.cell? ⟨U, 1 + D, none⟩ = some (.int .u32 (t.R D)) ∧ w'.cell? ⟨w.heap.size, 0, none⟩ = some (.int .i64 31) ∧ w'.cell? ⟨w.heap.size, 1, none⟩ = some (.int .i64 D) ∧ w'.cell? ⟨w.heap.size, 2, none⟩ = some (.int .i64 S) ∧ w'.cell? ⟨w.heap.size, 3, none⟩ = some (.int .i64 0) ∧ w'.cell? ⟨w.heap.size, 4, none⟩ = some (.int .u32 imm) ∧ w'.cell? ⟨w.heap.size + 1 + 1, 0, none⟩ = some (.int .i64 1)) (first | (simp [go_sem, cM2, rD2, Ia2, Ib2, Ic2, Id2, Ie2, Ra2, l2, Il2, Rl2, Pl2, u0, u1, u2]; done) | (simp [go_sem, cM1, rD1, Ia1, Ib1, Ic1, Id1, Ie1, Ra1, l1, Il1, Rl1]; done) | (simp [go_sem, cM, rD, u0, u1, u2, u3, u4]; done))
    (first | (go_at_call 163; refine (at_any U X t 31 D S 0 imm _ ?_ hS HT.out hi).mono ?_; (focus (exact (show TuW w _ U X m t from (by have hB := HH.out; (repeat (first | with_reducible exact hB | with_reducible refine TuW.drew ?_ | with_reducible refine TuW.new ?_ (by omega) _ _ | with_reducible refine TuW.alloc ?_ _)))).bU)); rintro e w1 ⟨rfl, hB1⟩; have HW1 : Hid (TuW w w1 U X m t) := TuW.call (by have hB := HH.out; (repeat (first | with_reducible exact hB | with_reducible refine TuW.drew ?_ | with_reducible refine TuW.new ?_ (by omega) _ _ | with_reducible refine TuW.alloc ?_ _))) hB1; have rD1 := tu_reg HW1.out.bU D hD; have fD1 := tu_fr HW1.out.bU (1 + D); have cM1 := tu_m HW1.out.bU; have l1 := HW1.out.lu; have HP1 : Hid (Own w w1 (w.heap.size + 1) (stopB 0 0)) := Own.call (by (repeat (first | with_reducible refine Own.drew ?_ | (with_reducible refine Own.last ?_ ?_; (focus (simp; done)); (focus omega)) | with_reducible refine Own.alloc ?_ _ | with_reducible refine Own.old ?_ u0 _ _ | with_reducible refine Own.other ?_ (by omega) _ _))) hB1; obtain ⟨Pa1, Pb1, Pc1, Pd1⟩ := HP1.out.stop; have Pl1 := HP1.out.lt; have HI1 : Hid (Own w w1 (w.heap.size) (.cells #[.int .i64 31, .int .i64 D, .int .i64 S, .int .i64 0, .int .u32 imm] 26)) := Own.call (by (repeat (first | with_reducible refine Own.drew ?_ | (with_reducible refine Own.last ?_ ?_; (focus (simp; done)); (focus omega)) | with_reducible refine Own.alloc ?_ _ | with_reducible refine Own.old ?_ u0 _ _ | with_reducible refine Own.other ?_ (by omega) _ _))) hB1; obtain ⟨Ia1, Ib1, Ic1, Id1, Ie1⟩ := own_ins5 HI1.out; have Il1 := HI1.out.lt; have HR1 : Hid (Own w w1 (w.heap.size + 1 + 1) (.cells #[.int .i64 1, .int .i64 2, .int .i64 4] 224)) := Own.call (by (repeat (first | with_reducible refine Own.drew ?_ | (with_reducible refine Own.last ?_ ?_; (focus (simp; done)); (focus omega)) | with_reducible refine Own.alloc ?_ _ | with_reducible refine Own.old ?_ u0 _ _ | with_reducible refine Own.other ?_ (by omega) _ _))) hB1; have Ra1 : w1.cell? ⟨w.heap.size + 1 + 1, 0, none⟩ = _ := cell_of_row _ _ 0 _ _ (0, 0) HR1.out.b; simp at Ra1; have Rl1 := HR1.out.lt; clear hB1) | (go_at_call 75; refine (store_tot X (w32 ((t.R S : Int) + imm)) (t.R D) 1 m _ HA.out hRD HM.out ?_).mono ?_; (focus (exact (show TuW w _ U X m t from (by have hB := HW1.out; (repeat (first | with_reducible exact hB | with_reducible refine TuW.drew ?_ | with_reducible refine TuW.new ?_ (by omega) _ _ | with_reducible refine TuW.alloc ?_ _)))).pm)); rintro e w2 ⟨rfl, hP1, hC1⟩; have HW2 : Hid (TuW w w2 U X (storeT m (w32 ((t.R S : Int) + imm)) 1 (t.R D)) t) := TuW.store (m := m) (by have hB := HW1.out; (repeat (first | with_reducible exact hB | with_reducible refine TuW.drew ?_ | with_reducible refine TuW.new ?_ (by omega) _ _ | with_reducible refine TuW.alloc ?_ _))) hP1 hC1; have rD2 := tu_reg HW2.out.bU D hD; have fD2 := tu_fr HW2.out.bU (1 + D); have cM2 := tu_m HW2.out.bU; have l2 := HW2.out.lu; have HP2 : Hid (Own w w2 (w.heap.size + 1) (stopB 0 0)) := Own.store (by (repeat (first | with_reducible exact HP1.out | with_reducible refine Own.drew ?_ | (with_reducible refine Own.last ?_ ?_; (focus (simp; done)); (focus omega)) | with_reducible refine Own.alloc ?_ _ | with_reducible refine Own.old ?_ u0 _ _ | with_reducible refine Own.other ?_ (by omega) _ _))) HH.out.hX hC1; obtain ⟨Pa2, Pb2, Pc2, Pd2⟩ := HP2.out.stop; have Pl2 := HP2.out.lt; have HI2 : Hid (Own w w2 (w.heap.size) (.cells #[.int .i64 31, .int .i64 D, .int .i64 S, .int .i64 0, .int .u32 imm] 26)) := Own.store (by (repeat (first | with_reducible exact HI1.out | with_reducible refine Own.drew ?_ | (with_reducible refine Own.last ?_ ?_; (focus (simp; done)); (focus omega)) | with_reducible refine Own.alloc ?_ _ | with_reducible refine Own.old ?_ u0 _ _ | with_reducible refine Own.other ?_ (by omega) _ _))) HH.out.hX hC1; obtain ⟨Ia2, Ib2, Ic2, Id2, Ie2⟩ := own_ins5 HI2.out; have Il2 := HI2.out.lt; have HR2 : Hid (Own w w2 (w.heap.size + 1 + 1) (.cells #[.int .i64 1, .int .i64 2, .int .i64 4] 224)) := Own.store (by (repeat (first | with_reducible exact HR1.out | with_reducible refine Own.drew ?_ | (with_reducible refine Own.last ?_ ?_; (focus (simp; done)); (focus omega)) | with_reducible refine Own.alloc ?_ _ | with_reducible refine Own.old ?_ u0 _ _ | with_reducible refine Own.other ?_ (by omega) _ _))) HH.out.hX hC1; have Ra2 : w2.cell? ⟨w.heap.size + 1 + 1, 0, none⟩ = _ := cell_of_row _ _ 0 _ _ (0, 0) HR2.out.b; simp at Ra2; have Rl2 := HR2.out.lt; clear hP1 hC1))
  all_goals go_wp2
  all_goals exact bodyPost_ret (v := (stVV 6 (sto m (w32 ((t.R S : Int) + imm)) 1))) (by simp [results, Try.results135, go_sem, u0, u1, u2, u3, u4, Pa2, Pb2, Pc2, Pd2, l2, Pl2]) rfl ⟨rfl, by
    have hB := HW2.out
    (repeat (first | with_reducible exact hB | with_reducible refine TuW.drew ?_ | with_reducible refine TuW.new ?_ (by omega) _ _ | with_reducible refine TuW.alloc ?_ _))⟩
set_option maxHeartbeats 1000000 in
theorem store1 (U X : Nat) (m : MS) (t : GS) (D S : Nat) (imm : Nat) (w : World) (H : TuW w w U X m t) (ht : t.Ok) (hi : imm < 4294967296) (hS : S < 8) (hD : D < 8) (hm : m.Ok) :
    Calls Try.prog 135 #[.pointer (some ⟨U, 0, none⟩), insA 31 D S 1 imm] w fun e w' => e = .returned (stVV 6 (sto m (w32 ((t.R S : Int) + imm)) 2)) ∧ TuW w w' U X (storeT m (w32 ((t.R S : Int) + imm)) 2 (t.R D)) t := by
  have HH : Hid _ := H
  have HT : Hid _ := ht
  have u0 := H.hU
  have u1 : U < w.heap.size + 1 := by omega
  have u2 : U < w.heap.size + 1 + 1 := by omega
  have u3 : U < w.heap.size + 1 + 1 + 1 := by omega
  have u4 : U < w.heap.size + 1 + 1 + 1 + 1 := by omega
  have rS := tu_reg H.bU S hS
  have rD := tu_reg H.bU D hD
  have fD := tu_fr H.bU (1 + D)
  have cM := tu_m H.bU
  have hSi : (S : Int) < 8 := by omega
  have hRS := ht.r S
  have hDi : (D : Int) < 8 := by omega
  have hRD := ht.r D
  have hp := ht.p
  have hf := ht.f
  have HM : Hid _ := hm
  have HA : Hid _ := w32_lt ((t.R S : Int) + imm)
  clear hm
  clear H ht
  go_enter Try.func135, Try.ntmps135
  go_upto_region 2 with fail
  go_region_held3 (fun w' => w'.cell? ⟨U, 0, none⟩ = some (.pointer (some ⟨X, 0, none⟩)) ∧ w'.cell? ⟨U, 1 + D, none⟩ = some (.int .u32 (t.R D)) ∧ w'.cell? ⟨w.heap.size, 0, none⟩ = some (.int .i64 31) ∧ w'.cell? ⟨w.heap.size, 1, none⟩ = some (.int .i64 D) ∧ w'.cell? ⟨w.heap.size, 2, none⟩ = some (.int .i64 S) ∧ w'.cell? ⟨w.heap.size, 3, none⟩ = some (.int .i64 1) ∧ w'.cell? ⟨w.heap.size, 4, none⟩ = some (.int .u32 imm) ∧ w'.cell? ⟨w.heap.size + 1 + 1, 1, none⟩ = some (.int .i64 2)) (first | (simp [go_sem, cM2, rD2, Ia2, Ib2, Ic2, Id2, Ie2, Ra2, l2, Il2, Rl2, Pl2, u0, u1, u2]; done) | (simp [go_sem, cM1, rD1, Ia1, Ib1, Ic1, Id1, Ie1, Ra1, l1, Il1, Rl1]; done) | (simp [go_sem, cM, rD, u0, u1, u2, u3, u4]; done))
    (first | (go_at_call 163; refine (at_any U X t 31 D S 1 imm _ ?_ hS HT.out hi).mono ?_; (focus (exact (show TuW w _ U X m t from (by have hB := HH.out; (repeat (first | with_reducible exact hB | with_reducible refine TuW.drew ?_ | with_reducible refine TuW.new ?_ (by omega) _ _ | with_reducible refine TuW.alloc ?_ _)))).bU)); rintro e w1 ⟨rfl, hB1⟩; have HW1 : Hid (TuW w w1 U X m t) := TuW.call (by have hB := HH.out; (repeat (first | with_reducible exact hB | with_reducible refine TuW.drew ?_ | with_reducible refine TuW.new ?_ (by omega) _ _ | with_reducible refine TuW.alloc ?_ _))) hB1; have rD1 := tu_reg HW1.out.bU D hD; have fD1 := tu_fr HW1.out.bU (1 + D); have cM1 := tu_m HW1.out.bU; have l1 := HW1.out.lu; have HP1 : Hid (Own w w1 (w.heap.size + 1) (stopB 0 0)) := Own.call (by (repeat (first | with_reducible refine Own.drew ?_ | (with_reducible refine Own.last ?_ ?_; (focus (simp; done)); (focus omega)) | with_reducible refine Own.alloc ?_ _ | with_reducible refine Own.old ?_ u0 _ _ | with_reducible refine Own.other ?_ (by omega) _ _))) hB1; obtain ⟨Pa1, Pb1, Pc1, Pd1⟩ := HP1.out.stop; have Pl1 := HP1.out.lt; have HI1 : Hid (Own w w1 (w.heap.size) (.cells #[.int .i64 31, .int .i64 D, .int .i64 S, .int .i64 1, .int .u32 imm] 26)) := Own.call (by (repeat (first | with_reducible refine Own.drew ?_ | (with_reducible refine Own.last ?_ ?_; (focus (simp; done)); (focus omega)) | with_reducible refine Own.alloc ?_ _ | with_reducible refine Own.old ?_ u0 _ _ | with_reducible refine Own.other ?_ (by omega) _ _))) hB1; obtain ⟨Ia1, Ib1, Ic1, Id1, Ie1⟩ := own_ins5 HI1.out; have Il1 := HI1.out.lt; have HR1 : Hid (Own w w1 (w.heap.size + 1 + 1) (.cells #[.int .i64 1, .int .i64 2, .int .i64 4] 224)) := Own.call (by (repeat (first | with_reducible refine Own.drew ?_ | (with_reducible refine Own.last ?_ ?_; (focus (simp; done)); (focus omega)) | with_reducible refine Own.alloc ?_ _ | with_reducible refine Own.old ?_ u0 _ _ | with_reducible refine Own.other ?_ (by omega) _ _))) hB1; have Ra1 : w1.cell? ⟨w.heap.size + 1 + 1, 1, none⟩ = _ := cell_of_row _ _ 1 _ _ (0, 0) HR1.out.b; simp at Ra1; have Rl1 := HR1.out.lt; clear hB1) | (go_at_call 75; refine (store_tot X (w32 ((t.R S : Int) + imm)) (t.R D) 2 m _ HA.out hRD HM.out ?_).mono ?_; (focus (exact (show TuW w _ U X m t from (by have hB := HW1.out; (repeat (first | with_reducible exact hB | with_reducible refine TuW.drew ?_ | with_reducible refine TuW.new ?_ (by omega) _ _ | with_reducible refine TuW.alloc ?_ _)))).pm)); rintro e w2 ⟨rfl, hP1, hC1⟩; have HW2 : Hid (TuW w w2 U X (storeT m (w32 ((t.R S : Int) + imm)) 2 (t.R D)) t) := TuW.store (m := m) (by have hB := HW1.out; (repeat (first | with_reducible exact hB | with_reducible refine TuW.drew ?_ | with_reducible refine TuW.new ?_ (by omega) _ _ | with_reducible refine TuW.alloc ?_ _))) hP1 hC1; have rD2 := tu_reg HW2.out.bU D hD; have fD2 := tu_fr HW2.out.bU (1 + D); have cM2 := tu_m HW2.out.bU; have l2 := HW2.out.lu; have HP2 : Hid (Own w w2 (w.heap.size + 1) (stopB 0 0)) := Own.store (by (repeat (first | with_reducible exact HP1.out | with_reducible refine Own.drew ?_ | (with_reducible refine Own.last ?_ ?_; (focus (simp; done)); (focus omega)) | with_reducible refine Own.alloc ?_ _ | with_reducible refine Own.old ?_ u0 _ _ | with_reducible refine Own.other ?_ (by omega) _ _))) HH.out.hX hC1; obtain ⟨Pa2, Pb2, Pc2, Pd2⟩ := HP2.out.stop; have Pl2 := HP2.out.lt; have HI2 : Hid (Own w w2 (w.heap.size) (.cells #[.int .i64 31, .int .i64 D, .int .i64 S, .int .i64 1, .int .u32 imm] 26)) := Own.store (by (repeat (first | with_reducible exact HI1.out | with_reducible refine Own.drew ?_ | (with_reducible refine Own.last ?_ ?_; (focus (simp; done)); (focus omega)) | with_reducible refine Own.alloc ?_ _ | with_reducible refine Own.old ?_ u0 _ _ | with_reducible refine Own.other ?_ (by omega) _ _))) HH.out.hX hC1; obtain ⟨Ia2, Ib2, Ic2, Id2, Ie2⟩ := own_ins5 HI2.out; have Il2 := HI2.out.lt; have HR2 : Hid (Own w w2 (w.heap.size + 1 + 1) (.cells #[.int .i64 1, .int .i64 2, .int .i64 4] 224)) := Own.store (by (repeat (first | with_reducible exact HR1.out | with_reducible refine Own.drew ?_ | (with_reducible refine Own.last ?_ ?_; (focus (simp; done)); (focus omega)) | with_reducible refine Own.alloc ?_ _ | with_reducible refine Own.old ?_ u0 _ _ | with_reducible refine Own.other ?_ (by omega) _ _))) HH.out.hX hC1; have Ra2 : w2.cell? ⟨w.heap.size + 1 + 1, 1, none⟩ = _ := cell_of_row _ _ 1 _ _ (0, 0) HR2.out.b; simp at Ra2; have Rl2 := HR2.out.lt; clear hP1 hC1))
  all_goals go_wp2
  all_goals exact bodyPost_ret (v := (stVV 6 (sto m (w32 ((t.R S : Int) + imm)) 2))) (by simp [results, Try.results135, go_sem, u0, u1, u2, u3, u4, Pa2, Pb2, Pc2, Pd2, l2, Pl2]) rfl ⟨rfl, by
    have hB := HW2.out
    (repeat (first | with_reducible exact hB | with_reducible refine TuW.drew ?_ | with_reducible refine TuW.new ?_ (by omega) _ _ | with_reducible refine TuW.alloc ?_ _))⟩
set_option maxHeartbeats 1000000 in
theorem store2 (U X : Nat) (m : MS) (t : GS) (D S : Nat) (imm : Nat) (w : World) (H : TuW w w U X m t) (ht : t.Ok) (hi : imm < 4294967296) (hS : S < 8) (hD : D < 8) (hm : m.Ok) :
    Calls Try.prog 135 #[.pointer (some ⟨U, 0, none⟩), insA 31 D S 2 imm] w fun e w' => e = .returned (stVV 6 (sto m (w32 ((t.R S : Int) + imm)) 4)) ∧ TuW w w' U X (storeT m (w32 ((t.R S : Int) + imm)) 4 (t.R D)) t := by
  have HH : Hid _ := H
  have HT : Hid _ := ht
  have u0 := H.hU
  have u1 : U < w.heap.size + 1 := by omega
  have u2 : U < w.heap.size + 1 + 1 := by omega
  have u3 : U < w.heap.size + 1 + 1 + 1 := by omega
  have u4 : U < w.heap.size + 1 + 1 + 1 + 1 := by omega
  have rS := tu_reg H.bU S hS
  have rD := tu_reg H.bU D hD
  have fD := tu_fr H.bU (1 + D)
  have cM := tu_m H.bU
  have hSi : (S : Int) < 8 := by omega
  have hRS := ht.r S
  have hDi : (D : Int) < 8 := by omega
  have hRD := ht.r D
  have hp := ht.p
  have hf := ht.f
  have HM : Hid _ := hm
  have HA : Hid _ := w32_lt ((t.R S : Int) + imm)
  clear hm
  clear H ht
  go_enter Try.func135, Try.ntmps135
  go_upto_region 2 with fail
  go_region_held3 (fun w' => w'.cell? ⟨U, 0, none⟩ = some (.pointer (some ⟨X, 0, none⟩)) ∧ w'.cell? ⟨U, 1 + D, none⟩ = some (.int .u32 (t.R D)) ∧ w'.cell? ⟨w.heap.size, 0, none⟩ = some (.int .i64 31) ∧ w'.cell? ⟨w.heap.size, 1, none⟩ = some (.int .i64 D) ∧ w'.cell? ⟨w.heap.size, 2, none⟩ = some (.int .i64 S) ∧ w'.cell? ⟨w.heap.size, 3, none⟩ = some (.int .i64 2) ∧ w'.cell? ⟨w.heap.size, 4, none⟩ = some (.int .u32 imm) ∧ w'.cell? ⟨w.heap.size + 1 + 1, 2, none⟩ = some (.int .i64 4)) (first | (simp [go_sem, cM2, rD2, Ia2, Ib2, Ic2, Id2, Ie2, Ra2, l2, Il2, Rl2, Pl2, u0, u1, u2]; done) | (simp [go_sem, cM1, rD1, Ia1, Ib1, Ic1, Id1, Ie1, Ra1, l1, Il1, Rl1]; done) | (simp [go_sem, cM, rD, u0, u1, u2, u3, u4]; done))
    (first | (go_at_call 163; refine (at_any U X t 31 D S 2 imm _ ?_ hS HT.out hi).mono ?_; (focus (exact (show TuW w _ U X m t from (by have hB := HH.out; (repeat (first | with_reducible exact hB | with_reducible refine TuW.drew ?_ | with_reducible refine TuW.new ?_ (by omega) _ _ | with_reducible refine TuW.alloc ?_ _)))).bU)); rintro e w1 ⟨rfl, hB1⟩; have HW1 : Hid (TuW w w1 U X m t) := TuW.call (by have hB := HH.out; (repeat (first | with_reducible exact hB | with_reducible refine TuW.drew ?_ | with_reducible refine TuW.new ?_ (by omega) _ _ | with_reducible refine TuW.alloc ?_ _))) hB1; have rD1 := tu_reg HW1.out.bU D hD; have fD1 := tu_fr HW1.out.bU (1 + D); have cM1 := tu_m HW1.out.bU; have l1 := HW1.out.lu; have HP1 : Hid (Own w w1 (w.heap.size + 1) (stopB 0 0)) := Own.call (by (repeat (first | with_reducible refine Own.drew ?_ | (with_reducible refine Own.last ?_ ?_; (focus (simp; done)); (focus omega)) | with_reducible refine Own.alloc ?_ _ | with_reducible refine Own.old ?_ u0 _ _ | with_reducible refine Own.other ?_ (by omega) _ _))) hB1; obtain ⟨Pa1, Pb1, Pc1, Pd1⟩ := HP1.out.stop; have Pl1 := HP1.out.lt; have HI1 : Hid (Own w w1 (w.heap.size) (.cells #[.int .i64 31, .int .i64 D, .int .i64 S, .int .i64 2, .int .u32 imm] 26)) := Own.call (by (repeat (first | with_reducible refine Own.drew ?_ | (with_reducible refine Own.last ?_ ?_; (focus (simp; done)); (focus omega)) | with_reducible refine Own.alloc ?_ _ | with_reducible refine Own.old ?_ u0 _ _ | with_reducible refine Own.other ?_ (by omega) _ _))) hB1; obtain ⟨Ia1, Ib1, Ic1, Id1, Ie1⟩ := own_ins5 HI1.out; have Il1 := HI1.out.lt; have HR1 : Hid (Own w w1 (w.heap.size + 1 + 1) (.cells #[.int .i64 1, .int .i64 2, .int .i64 4] 224)) := Own.call (by (repeat (first | with_reducible refine Own.drew ?_ | (with_reducible refine Own.last ?_ ?_; (focus (simp; done)); (focus omega)) | with_reducible refine Own.alloc ?_ _ | with_reducible refine Own.old ?_ u0 _ _ | with_reducible refine Own.other ?_ (by omega) _ _))) hB1; have Ra1 : w1.cell? ⟨w.heap.size + 1 + 1, 2, none⟩ = _ := cell_of_row _ _ 2 _ _ (0, 0) HR1.out.b; simp at Ra1; have Rl1 := HR1.out.lt; clear hB1) | (go_at_call 75; refine (store_tot X (w32 ((t.R S : Int) + imm)) (t.R D) 4 m _ HA.out hRD HM.out ?_).mono ?_; (focus (exact (show TuW w _ U X m t from (by have hB := HW1.out; (repeat (first | with_reducible exact hB | with_reducible refine TuW.drew ?_ | with_reducible refine TuW.new ?_ (by omega) _ _ | with_reducible refine TuW.alloc ?_ _)))).pm)); rintro e w2 ⟨rfl, hP1, hC1⟩; have HW2 : Hid (TuW w w2 U X (storeT m (w32 ((t.R S : Int) + imm)) 4 (t.R D)) t) := TuW.store (m := m) (by have hB := HW1.out; (repeat (first | with_reducible exact hB | with_reducible refine TuW.drew ?_ | with_reducible refine TuW.new ?_ (by omega) _ _ | with_reducible refine TuW.alloc ?_ _))) hP1 hC1; have rD2 := tu_reg HW2.out.bU D hD; have fD2 := tu_fr HW2.out.bU (1 + D); have cM2 := tu_m HW2.out.bU; have l2 := HW2.out.lu; have HP2 : Hid (Own w w2 (w.heap.size + 1) (stopB 0 0)) := Own.store (by (repeat (first | with_reducible exact HP1.out | with_reducible refine Own.drew ?_ | (with_reducible refine Own.last ?_ ?_; (focus (simp; done)); (focus omega)) | with_reducible refine Own.alloc ?_ _ | with_reducible refine Own.old ?_ u0 _ _ | with_reducible refine Own.other ?_ (by omega) _ _))) HH.out.hX hC1; obtain ⟨Pa2, Pb2, Pc2, Pd2⟩ := HP2.out.stop; have Pl2 := HP2.out.lt; have HI2 : Hid (Own w w2 (w.heap.size) (.cells #[.int .i64 31, .int .i64 D, .int .i64 S, .int .i64 2, .int .u32 imm] 26)) := Own.store (by (repeat (first | with_reducible exact HI1.out | with_reducible refine Own.drew ?_ | (with_reducible refine Own.last ?_ ?_; (focus (simp; done)); (focus omega)) | with_reducible refine Own.alloc ?_ _ | with_reducible refine Own.old ?_ u0 _ _ | with_reducible refine Own.other ?_ (by omega) _ _))) HH.out.hX hC1; obtain ⟨Ia2, Ib2, Ic2, Id2, Ie2⟩ := own_ins5 HI2.out; have Il2 := HI2.out.lt; have HR2 : Hid (Own w w2 (w.heap.size + 1 + 1) (.cells #[.int .i64 1, .int .i64 2, .int .i64 4] 224)) := Own.store (by (repeat (first | with_reducible exact HR1.out | with_reducible refine Own.drew ?_ | (with_reducible refine Own.last ?_ ?_; (focus (simp; done)); (focus omega)) | with_reducible refine Own.alloc ?_ _ | with_reducible refine Own.old ?_ u0 _ _ | with_reducible refine Own.other ?_ (by omega) _ _))) HH.out.hX hC1; have Ra2 : w2.cell? ⟨w.heap.size + 1 + 1, 2, none⟩ = _ := cell_of_row _ _ 2 _ _ (0, 0) HR2.out.b; simp at Ra2; have Rl2 := HR2.out.lt; clear hP1 hC1))
  all_goals go_wp2
  all_goals exact bodyPost_ret (v := (stVV 6 (sto m (w32 ((t.R S : Int) + imm)) 4))) (by simp [results, Try.results135, go_sem, u0, u1, u2, u3, u4, Pa2, Pb2, Pc2, Pd2, l2, Pl2]) rfl ⟨rfl, by
    have hB := HW2.out
    (repeat (first | with_reducible exact hB | with_reducible refine TuW.drew ?_ | with_reducible refine TuW.new ?_ (by omega) _ _ | with_reducible refine TuW.alloc ?_ _))⟩
end Go.Proofs.Ytedkcaflopmefaa
