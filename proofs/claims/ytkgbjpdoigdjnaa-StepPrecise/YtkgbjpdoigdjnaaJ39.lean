import Derived.Test.YtkgbjpdoigdjnaaJ38
import Derived.Test.YtkgbjpdoigdjnaaJ16
import Derived.Deep.RegionHeld3
namespace Go.Proofs.Ytkgbjpdoigdjnaa
open Go.RowKit
set_option maxRecDepth 100000
set_option linter.unusedVariables false
set_option linter.unusedSimpArgs false

theorem pload_me (X a : Nat) (n : Int) (m : MS) (w : World) (ha : a < 4294967296) (hm : m.Ok) (h : PM w X m) :
    Calls Try.prog 73 #[.pointer (some ⟨X, 0, none⟩), .int .u32 a, .int .i64 n] w fun e w' => e = .returned (.tuple #[.int .u32 (ldN m a n), stVV 5 (badN m 1 a n.toNat)]) ∧ Below w.heap.size w w' := by
  rw [ldN_cast hm]; exact load_tot X a n m w ha hm h
set_option maxHeartbeats 1000000 in
theorem jump11 (U X : Nat) (m : MS) (t : GS) (D S : Nat) (O : Int) (imm : Nat) (w : World) (H : TuW w w U X m t) (ht : t.Ok) (hi : imm < 4294967296) (hS : S < 8) (hm : m.Ok) :
    Calls Try.prog 130 #[.pointer (some ⟨U, 0, none⟩), insA 11 D S O imm] w fun e w' => e = .returned (stVV 5 (badN m 1 (w32 ((t.R S : Int) + imm)) 4)) ∧ TuW w w' U X m (t.setPC (ldN m (w32 ((t.R S : Int) + imm)) 4)) := by
  have HH : Hid _ := H
  have HT : Hid _ := ht
  have u0 := H.hU
  have u1 : U < w.heap.size + 1 := by omega
  have u2 : U < w.heap.size + 1 + 1 := by omega
  have u3 : U < w.heap.size + 1 + 1 + 1 := by omega
  have u4 : U < w.heap.size + 1 + 1 + 1 + 1 := by omega
  have rS := tu_reg H.bU S hS
  have c9 := tu_pc H.bU
  have f9 := tu_fr H.bU 9
  have cM := tu_m H.bU
  have hSi : (S : Int) < 8 := by omega
  have hRS := ht.r S
  have hp := ht.p
  have hf := ht.f
  have HM : Hid _ := hm
  clear hm
  have HA : Hid _ := w32_lt ((t.R S : Int) + imm)
  clear H ht
  go_enter Try.func130, Try.ntmps130
  go_wp2
  go_region_with (first | (go_at_call 163; refine (at_any U X t 11 D S O imm _ ?_ hS HT.out hi).mono ?_; (focus (exact (show TuW w _ U X m t from (by have hB := HH.out; (repeat (first | with_reducible exact hB | with_reducible refine TuW.drew ?_ | with_reducible refine TuW.new ?_ (by omega) _ _ | with_reducible refine TuW.alloc ?_ _)))).bU)); rintro e w1 ⟨rfl, hB1⟩; have HW1 : Hid (TuW w w1 U X m t) := TuW.call (by have hB := HH.out; (repeat (first | with_reducible exact hB | with_reducible refine TuW.drew ?_ | with_reducible refine TuW.new ?_ (by omega) _ _ | with_reducible refine TuW.alloc ?_ _))) hB1; have c91 := tu_pc HW1.out.bU; have f91 := tu_fr HW1.out.bU 9; have cM1 := tu_m HW1.out.bU; have l1 := HW1.out.lu; have HI1 : Hid (Own w w1 (w.heap.size) (insO 11 D S O imm)) := Own.call (by (repeat (first | with_reducible refine Own.drew ?_ | (with_reducible refine Own.last ?_ ?_; (focus (simp; done)); (focus omega)) | with_reducible refine Own.alloc ?_ _ | with_reducible refine Own.old ?_ u0 _ _ | with_reducible refine Own.other ?_ (by omega) _ _))) hB1; obtain ⟨Ia1, Ib1, Ic1, Id1, Ie1⟩ := HI1.out.ins; have Il1 := HI1.out.lt; have HP1 : Hid (Own w w1 (w.heap.size + 1) (stopB 0 0)) := Own.call (by (repeat (first | with_reducible refine Own.drew ?_ | (with_reducible refine Own.last ?_ ?_; (focus (simp; done)); (focus omega)) | with_reducible refine Own.alloc ?_ _ | with_reducible refine Own.old ?_ u0 _ _ | with_reducible refine Own.other ?_ (by omega) _ _))) hB1; obtain ⟨Pa1, Pb1, Pc1, Pd1⟩ := HP1.out.stop; have Pl1 := HP1.out.lt; have HQ1 : Hid (Own w w1 (w.heap.size + 1 + 1) (stopB 0 0)) := Own.call (by (repeat (first | with_reducible refine Own.drew ?_ | (with_reducible refine Own.last ?_ ?_; (focus (simp; done)); (focus omega)) | with_reducible refine Own.alloc ?_ _ | with_reducible refine Own.old ?_ u0 _ _ | with_reducible refine Own.other ?_ (by omega) _ _))) hB1; obtain ⟨Qa1, Qb1, Qc1, Qd1⟩ := HQ1.out.stop; have Ql1 := HQ1.out.lt; clear hB1) | (go_at_call 73; refine (pload_me X (w32 ((t.R S : Int) + imm)) 4 m _ HA.out HM.out ?_).mono ?_; (focus (exact (show TuW w _ U X m t from (by have hB := HW1.out; (repeat (first | with_reducible exact hB | with_reducible refine TuW.drew ?_ | with_reducible refine TuW.new ?_ (by omega) _ _ | with_reducible refine TuW.alloc ?_ _)))).pm)); rintro e w2 ⟨rfl, hB1⟩; have HW2 : Hid (TuW w w2 U X m t) := TuW.call (by have hB := HW1.out; (repeat (first | with_reducible exact hB | with_reducible refine TuW.drew ?_ | with_reducible refine TuW.new ?_ (by omega) _ _ | with_reducible refine TuW.alloc ?_ _))) hB1; have c92 := tu_pc HW2.out.bU; have f92 := tu_fr HW2.out.bU 9; have l2 := HW2.out.lu; have HI2 : Hid (Own w w2 (w.heap.size) (insO 11 D S O imm)) := Own.call (by (repeat (first | with_reducible exact HI1.out | with_reducible refine Own.drew ?_ | (with_reducible refine Own.last ?_ ?_; (focus (simp; done)); (focus omega)) | with_reducible refine Own.alloc ?_ _ | with_reducible refine Own.old ?_ u0 _ _ | with_reducible refine Own.other ?_ (by omega) _ _))) hB1; obtain ⟨Ia2, Ib2, Ic2, Id2, Ie2⟩ := HI2.out.ins; have Il2 := HI2.out.lt; have HP2 : Hid (Own w w2 (w.heap.size + 1) (stopB 0 0)) := Own.call (by (repeat (first | with_reducible exact HP1.out | with_reducible refine Own.drew ?_ | (with_reducible refine Own.last ?_ ?_; (focus (simp; done)); (focus omega)) | with_reducible refine Own.alloc ?_ _ | with_reducible refine Own.old ?_ u0 _ _ | with_reducible refine Own.other ?_ (by omega) _ _))) hB1; obtain ⟨Pa2, Pb2, Pc2, Pd2⟩ := HP2.out.stop; have Pl2 := HP2.out.lt; have HQ2 : Hid (Own w w2 (w.heap.size + 1 + 1) (stopB 0 0)) := Own.call (by (repeat (first | with_reducible exact HQ1.out | with_reducible refine Own.drew ?_ | (with_reducible refine Own.last ?_ ?_; (focus (simp; done)); (focus omega)) | with_reducible refine Own.alloc ?_ _ | with_reducible refine Own.old ?_ u0 _ _ | with_reducible refine Own.other ?_ (by omega) _ _))) hB1; obtain ⟨Qa2, Qb2, Qc2, Qd2⟩ := HQ2.out.stop; have Ql2 := HQ2.out.lt; clear hB1))
  all_goals go_wp2
  all_goals exact bodyPost_ret (v := (stVV 5 (badN m 1 (w32 ((t.R S : Int) + imm)) 4))) (by simp [results, Try.results130, go_sem, u0, u1, u2, u3, u4, Pa2, Pb2, Pc2, Pd2, Qa2, Qb2, Qc2, Qd2, l2]) rfl ⟨rfl, by
    have hB := HW2.out
    (repeat (first | with_reducible exact hB | with_reducible refine TuW.drew ?_ | with_reducible refine TuW.setPCn ?_ _ | with_reducible refine TuW.new ?_ (by omega) _ _ | with_reducible refine TuW.alloc ?_ _))⟩
end Go.Proofs.Ytkgbjpdoigdjnaa

namespace Go.Proofs.Ytkgbjpdoigdjnaa
open Go.RowKit
set_option maxRecDepth 100000
set_option linter.unusedVariables false
set_option linter.unusedSimpArgs false

theorem TuW.setR7n {w W : World} {U X : Nat} {m : MS} {t : GS} (h : TuW w W U X m t) (v : Nat) : TuW w (W.setCell ⟨U, 8, none⟩ (.int .u32 v)) U X m (t.setR 7 v) := h.setR 7 (by omega) v (Int.natCast_nonneg _)
set_option maxHeartbeats 1000000 in
theorem push14 (U X : Nat) (m : MS) (t : GS) (D S : Nat) (O : Int) (imm : Nat) (w : World) (H : TuW w w U X m t) (ht : t.Ok) (hi : imm < 4294967296) (hS : S < 8) (hm : m.Ok) :
    Calls Try.prog 131 #[.pointer (some ⟨U, 0, none⟩), insA 14 D S O imm] w fun e w' => e = .returned (stVV 6 (sto m (w32 ((t.R 7 : Int) - 4)) 4)) ∧ TuW w w' U X (storeT m (w32 ((t.R 7 : Int) - 4)) 4 (t.R S)) ((t.setR 7 (w32 ((t.R 7 : Int) - 4))).setPC t.pc) := by
  have HH : Hid _ := H
  have HT : Hid _ := ht
  have u0 := H.hU
  have u1 : U < w.heap.size + 1 := by omega
  have u2 : U < w.heap.size + 1 + 1 := by omega
  have u3 : U < w.heap.size + 1 + 1 + 1 := by omega
  have u4 : U < w.heap.size + 1 + 1 + 1 + 1 := by omega
  have rS := tu_reg H.bU S hS
  have r7 := tu_reg H.bU 7 (by omega)
  have f7 := tu_fr H.bU 8
  have c9 := tu_pc H.bU
  have f9 := tu_fr H.bU 9
  have cF := tu_f H.bU
  have fF := tu_fr H.bU 10
  have cM := tu_m H.bU
  have hSi : (S : Int) < 8 := by omega
  have hRS := ht.r S
  have hR7 := ht.r 7
  have hp := ht.p
  have hf := ht.f
  have HM : Hid _ := hm
  clear hm
  obtain ⟨dn, hdn⟩ : ∃ dn : Nat, ((t.R 7 : Int) - 4) % 4294967296 = dn := ⟨w32 ((t.R 7 : Int) - 4), (w32_cast _).symm⟩
  have hdl : dn < 4294967296 := by omega
  have HD : Hid (w32 ((t.R 7 : Int) - 4) = dn) := by
    have := w32_cast ((t.R 7 : Int) - 4)
    show w32 ((t.R 7 : Int) - 4) = dn
    omega
  clear H ht
  go_enter Try.func131, Try.ntmps131
  go_wp2
  go_region
  all_goals go_wp2
  all_goals go_region
  all_goals go_wp2
  all_goals go_region_held3 (fun w' => w'.cell? ⟨U, 0, none⟩ = some (.pointer (some ⟨X, 0, none⟩)) ∧ w'.cell? ⟨U, 8, none⟩ = some (.int .u32 dn)) (first | (simp [go_sem, cM, r7, u0, u1, u2]; done) | (simp [go_sem, cM1, R71, l1, u0, u1, u2]; done))
    (first | (go_at_call 75; refine (store_tot X dn (t.R S) 4 m _ hdl hRS HM.out ?_).mono ?_; (focus (exact (show TuW w _ U X m ((t.setR 7 dn).setPC t.pc) from (by have hB := HH.out; (repeat (first | with_reducible exact hB | with_reducible refine TuW.drew ?_ | with_reducible refine TuW.setR7n ?_ _ | with_reducible refine TuW.setPCn ?_ _ | with_reducible refine TuW.new ?_ (by omega) _ _ | with_reducible refine TuW.alloc ?_ _)))).pm)); rintro e w1 ⟨rfl, hP1, hC1⟩; have HW1 : Hid (TuW w w1 U X (storeT m dn 4 (t.R S)) ((t.setR 7 dn).setPC t.pc)) := TuW.store (m := m) (by have hB := HH.out; (repeat (first | with_reducible exact hB | with_reducible refine TuW.drew ?_ | with_reducible refine TuW.setR7n ?_ _ | with_reducible refine TuW.setPCn ?_ _ | with_reducible refine TuW.new ?_ (by omega) _ _ | with_reducible refine TuW.alloc ?_ _))) hP1 hC1; have cM1 := tu_m HW1.out.bU; have r71 := tu_reg HW1.out.bU 7 (by omega); have R71 : w1.cell? ⟨U, 8, none⟩ = some (.int .u32 dn) := r71; have l1 := HW1.out.lu; have HP1 : Hid (Own w w1 (w.heap.size + 1) (stopB 0 0)) := Own.store (by (repeat (first | with_reducible refine Own.drew ?_ | (with_reducible refine Own.last ?_ ?_; (focus (simp; done)); (focus omega)) | with_reducible refine Own.alloc ?_ _ | with_reducible refine Own.old ?_ u0 _ _ | with_reducible refine Own.other ?_ (by omega) _ _))) HH.out.hX hC1; obtain ⟨Pa1, Pb1, Pc1, Pd1⟩ := HP1.out.stop; have Pl1 := HP1.out.lt; clear hP1 hC1))
  all_goals go_wp2
  all_goals exact bodyPost_ret (v := stVV 6 (sto m dn 4)) (by simp [results, Try.results131, go_sem, u0, u1, u2, u3, u4, Pa1, Pb1, Pc1, Pd1, l1]) rfl ⟨by rw [HD.out], by
    rw [HD.out]
    have hB := HW1.out
    (repeat (first | with_reducible exact hB | with_reducible refine TuW.drew ?_ | with_reducible refine TuW.new ?_ (by omega) _ _ | with_reducible refine TuW.alloc ?_ _))⟩
set_option maxHeartbeats 1000000 in
theorem push3 (U X : Nat) (m : MS) (t : GS) (D S : Nat) (O : Int) (imm : Nat) (w : World) (H : TuW w w U X m t) (ht : t.Ok) (hi : imm < 4294967296) (hS : S < 8) (hm : m.Ok) :
    Calls Try.prog 131 #[.pointer (some ⟨U, 0, none⟩), insA 3 D S O imm] w fun e w' => e = .returned (stVV 6 (sto m (w32 ((t.R 7 : Int) - 4)) 4)) ∧ TuW w w' U X (storeT m (w32 ((t.R 7 : Int) - 4)) 4 t.f) ((t.setR 7 (w32 ((t.R 7 : Int) - 4))).setPC t.pc) := by
  have HH : Hid _ := H
  have HT : Hid _ := ht
  have u0 := H.hU
  have u1 : U < w.heap.size + 1 := by omega
  have u2 : U < w.heap.size + 1 + 1 := by omega
  have u3 : U < w.heap.size + 1 + 1 + 1 := by omega
  have u4 : U < w.heap.size + 1 + 1 + 1 + 1 := by omega
  have rS := tu_reg H.bU S hS
  have r7 := tu_reg H.bU 7 (by omega)
  have f7 := tu_fr H.bU 8
  have c9 := tu_pc H.bU
  have f9 := tu_fr H.bU 9
  have cF := tu_f H.bU
  have fF := tu_fr H.bU 10
  have cM := tu_m H.bU
  have hSi : (S : Int) < 8 := by omega
  have hRS := ht.r S
  have hR7 := ht.r 7
  have hp := ht.p
  have hf := ht.f
  have HM : Hid _ := hm
  clear hm
  obtain ⟨dn, hdn⟩ : ∃ dn : Nat, ((t.R 7 : Int) - 4) % 4294967296 = dn := ⟨w32 ((t.R 7 : Int) - 4), (w32_cast _).symm⟩
  have hdl : dn < 4294967296 := by omega
  have HD : Hid (w32 ((t.R 7 : Int) - 4) = dn) := by
    have := w32_cast ((t.R 7 : Int) - 4)
    show w32 ((t.R 7 : Int) - 4) = dn
    omega
  clear H ht
  go_enter Try.func131, Try.ntmps131
  go_wp2
  go_region
  all_goals go_wp2
  all_goals go_region
  all_goals go_wp2
  all_goals go_region_held3 (fun w' => w'.cell? ⟨U, 0, none⟩ = some (.pointer (some ⟨X, 0, none⟩)) ∧ w'.cell? ⟨U, 8, none⟩ = some (.int .u32 dn)) (first | (simp [go_sem, cM, r7, u0, u1, u2]; done) | (simp [go_sem, cM1, R71, l1, u0, u1, u2]; done))
    (first | (go_at_call 75; refine (store_tot X dn t.f 4 m _ hdl hf HM.out ?_).mono ?_; (focus (exact (show TuW w _ U X m ((t.setR 7 dn).setPC t.pc) from (by have hB := HH.out; (repeat (first | with_reducible exact hB | with_reducible refine TuW.drew ?_ | with_reducible refine TuW.setR7n ?_ _ | with_reducible refine TuW.setPCn ?_ _ | with_reducible refine TuW.new ?_ (by omega) _ _ | with_reducible refine TuW.alloc ?_ _)))).pm)); rintro e w1 ⟨rfl, hP1, hC1⟩; have HW1 : Hid (TuW w w1 U X (storeT m dn 4 t.f) ((t.setR 7 dn).setPC t.pc)) := TuW.store (m := m) (by have hB := HH.out; (repeat (first | with_reducible exact hB | with_reducible refine TuW.drew ?_ | with_reducible refine TuW.setR7n ?_ _ | with_reducible refine TuW.setPCn ?_ _ | with_reducible refine TuW.new ?_ (by omega) _ _ | with_reducible refine TuW.alloc ?_ _))) hP1 hC1; have cM1 := tu_m HW1.out.bU; have r71 := tu_reg HW1.out.bU 7 (by omega); have R71 : w1.cell? ⟨U, 8, none⟩ = some (.int .u32 dn) := r71; have l1 := HW1.out.lu; have HP1 : Hid (Own w w1 (w.heap.size + 1) (stopB 0 0)) := Own.store (by (repeat (first | with_reducible refine Own.drew ?_ | (with_reducible refine Own.last ?_ ?_; (focus (simp; done)); (focus omega)) | with_reducible refine Own.alloc ?_ _ | with_reducible refine Own.old ?_ u0 _ _ | with_reducible refine Own.other ?_ (by omega) _ _))) HH.out.hX hC1; obtain ⟨Pa1, Pb1, Pc1, Pd1⟩ := HP1.out.stop; have Pl1 := HP1.out.lt; clear hP1 hC1))
  all_goals go_wp2
  all_goals exact bodyPost_ret (v := stVV 6 (sto m dn 4)) (by simp [results, Try.results131, go_sem, u0, u1, u2, u3, u4, Pa1, Pb1, Pc1, Pd1, l1]) rfl ⟨by rw [HD.out], by
    rw [HD.out]
    have hB := HW1.out
    (repeat (first | with_reducible exact hB | with_reducible refine TuW.drew ?_ | with_reducible refine TuW.new ?_ (by omega) _ _ | with_reducible refine TuW.alloc ?_ _))⟩
set_option maxHeartbeats 1000000 in
theorem push8 (U X : Nat) (m : MS) (t : GS) (D S : Nat) (O : Int) (imm : Nat) (w : World) (H : TuW w w U X m t) (ht : t.Ok) (hi : imm < 4294967296) (hS : S < 8) (hm : m.Ok) :
    Calls Try.prog 131 #[.pointer (some ⟨U, 0, none⟩), insA 8 D S O imm] w fun e w' => e = .returned (stVV 6 (sto m (w32 ((t.R 7 : Int) - 4)) 4)) ∧ TuW w w' U X (storeT m (w32 ((t.R 7 : Int) - 4)) 4 t.pc) ((t.setR 7 (w32 ((t.R 7 : Int) - 4))).setPC (w32 ((t.pc : Int) + imm))) := by
  have HH : Hid _ := H
  have HT : Hid _ := ht
  have u0 := H.hU
  have u1 : U < w.heap.size + 1 := by omega
  have u2 : U < w.heap.size + 1 + 1 := by omega
  have u3 : U < w.heap.size + 1 + 1 + 1 := by omega
  have u4 : U < w.heap.size + 1 + 1 + 1 + 1 := by omega
  have rS := tu_reg H.bU S hS
  have r7 := tu_reg H.bU 7 (by omega)
  have f7 := tu_fr H.bU 8
  have c9 := tu_pc H.bU
  have f9 := tu_fr H.bU 9
  have cF := tu_f H.bU
  have fF := tu_fr H.bU 10
  have cM := tu_m H.bU
  have hSi : (S : Int) < 8 := by omega
  have hRS := ht.r S
  have hR7 := ht.r 7
  have hp := ht.p
  have hf := ht.f
  have HM : Hid _ := hm
  clear hm
  obtain ⟨dn, hdn⟩ : ∃ dn : Nat, ((t.R 7 : Int) - 4) % 4294967296 = dn := ⟨w32 ((t.R 7 : Int) - 4), (w32_cast _).symm⟩
  have hdl : dn < 4294967296 := by omega
  have HD : Hid (w32 ((t.R 7 : Int) - 4) = dn) := by
    have := w32_cast ((t.R 7 : Int) - 4)
    show w32 ((t.R 7 : Int) - 4) = dn
    omega
  obtain ⟨np, hnp⟩ : ∃ np : Nat, ((t.pc : Int) + imm) % 4294967296 = np := ⟨w32 ((t.pc : Int) + imm), (w32_cast _).symm⟩
  have HN : Hid (w32 ((t.pc : Int) + imm) = np) := by
    have := w32_cast ((t.pc : Int) + imm)
    show w32 ((t.pc : Int) + imm) = np
    omega
  clear H ht
  go_enter Try.func131, Try.ntmps131
  go_wp2
  go_region
  all_goals go_wp2
  all_goals go_region
  all_goals go_wp2
  all_goals go_region
  all_goals go_wp2
  all_goals go_region_held3 (fun w' => w'.cell? ⟨U, 0, none⟩ = some (.pointer (some ⟨X, 0, none⟩)) ∧ w'.cell? ⟨U, 8, none⟩ = some (.int .u32 dn)) (first | (simp [go_sem, cM, r7, u0, u1, u2]; done) | (simp [go_sem, cM1, R71, l1, u0, u1, u2]; done))
    (first | (go_at_call 75; refine (store_tot X dn t.pc 4 m _ hdl hp HM.out ?_).mono ?_; (focus (exact (show TuW w _ U X m ((t.setR 7 dn).setPC np) from (by have hB := HH.out; (repeat (first | with_reducible exact hB | with_reducible refine TuW.drew ?_ | with_reducible refine TuW.setR7n ?_ _ | with_reducible refine TuW.setPCn ?_ _ | with_reducible refine TuW.new ?_ (by omega) _ _ | with_reducible refine TuW.alloc ?_ _)))).pm)); rintro e w1 ⟨rfl, hP1, hC1⟩; have HW1 : Hid (TuW w w1 U X (storeT m dn 4 t.pc) ((t.setR 7 dn).setPC np)) := TuW.store (m := m) (by have hB := HH.out; (repeat (first | with_reducible exact hB | with_reducible refine TuW.drew ?_ | with_reducible refine TuW.setR7n ?_ _ | with_reducible refine TuW.setPCn ?_ _ | with_reducible refine TuW.new ?_ (by omega) _ _ | with_reducible refine TuW.alloc ?_ _))) hP1 hC1; have cM1 := tu_m HW1.out.bU; have r71 := tu_reg HW1.out.bU 7 (by omega); have R71 : w1.cell? ⟨U, 8, none⟩ = some (.int .u32 dn) := r71; have l1 := HW1.out.lu; have HP1 : Hid (Own w w1 (w.heap.size + 1) (stopB 0 0)) := Own.store (by (repeat (first | with_reducible refine Own.drew ?_ | (with_reducible refine Own.last ?_ ?_; (focus (simp; done)); (focus omega)) | with_reducible refine Own.alloc ?_ _ | with_reducible refine Own.old ?_ u0 _ _ | with_reducible refine Own.other ?_ (by omega) _ _))) HH.out.hX hC1; obtain ⟨Pa1, Pb1, Pc1, Pd1⟩ := HP1.out.stop; have Pl1 := HP1.out.lt; clear hP1 hC1))
  all_goals go_wp2
  all_goals exact bodyPost_ret (v := stVV 6 (sto m dn 4)) (by simp [results, Try.results131, go_sem, u0, u1, u2, u3, u4, Pa1, Pb1, Pc1, Pd1, l1]) rfl ⟨by rw [HD.out], by
    rw [HD.out, HN.out]
    have hB := HW1.out
    (repeat (first | with_reducible exact hB | with_reducible refine TuW.drew ?_ | with_reducible refine TuW.new ?_ (by omega) _ _ | with_reducible refine TuW.alloc ?_ _))⟩
set_option maxHeartbeats 1000000 in
theorem push10 (U X : Nat) (m : MS) (t : GS) (D S : Nat) (O : Int) (imm : Nat) (w : World) (H : TuW w w U X m t) (ht : t.Ok) (hi : imm < 4294967296) (hS : S < 8) (hm : m.Ok) :
    Calls Try.prog 131 #[.pointer (some ⟨U, 0, none⟩), insA 10 D S O imm] w fun e w' => e = .returned (stVV 6 (sto m (w32 ((t.R 7 : Int) - 4)) 4)) ∧ TuW w w' U X (storeT m (w32 ((t.R 7 : Int) - 4)) 4 t.pc) ((t.setR 7 (w32 ((t.R 7 : Int) - 4))).setPC (t.R S)) := by
  have HH : Hid _ := H
  have HT : Hid _ := ht
  have u0 := H.hU
  have u1 : U < w.heap.size + 1 := by omega
  have u2 : U < w.heap.size + 1 + 1 := by omega
  have u3 : U < w.heap.size + 1 + 1 + 1 := by omega
  have u4 : U < w.heap.size + 1 + 1 + 1 + 1 := by omega
  have rS := tu_reg H.bU S hS
  have r7 := tu_reg H.bU 7 (by omega)
  have f7 := tu_fr H.bU 8
  have c9 := tu_pc H.bU
  have f9 := tu_fr H.bU 9
  have cF := tu_f H.bU
  have fF := tu_fr H.bU 10
  have cM := tu_m H.bU
  have hSi : (S : Int) < 8 := by omega
  have hRS := ht.r S
  have hR7 := ht.r 7
  have hp := ht.p
  have hf := ht.f
  have HM : Hid _ := hm
  clear hm
  obtain ⟨dn, hdn⟩ : ∃ dn : Nat, ((t.R 7 : Int) - 4) % 4294967296 = dn := ⟨w32 ((t.R 7 : Int) - 4), (w32_cast _).symm⟩
  have hdl : dn < 4294967296 := by omega
  have HD : Hid (w32 ((t.R 7 : Int) - 4) = dn) := by
    have := w32_cast ((t.R 7 : Int) - 4)
    show w32 ((t.R 7 : Int) - 4) = dn
    omega
  clear H ht
  go_enter Try.func131, Try.ntmps131
  go_wp2
  go_region
  all_goals go_wp2
  all_goals go_region
  all_goals go_wp2
  all_goals go_region
  all_goals go_wp2
  all_goals go_region_held3 (fun w' => w'.cell? ⟨U, 0, none⟩ = some (.pointer (some ⟨X, 0, none⟩)) ∧ w'.cell? ⟨U, 8, none⟩ = some (.int .u32 dn)) (first | (simp [go_sem, cM, r7, u0, u1, u2]; done) | (simp [go_sem, cM1, R71, l1, u0, u1, u2]; done))
    (first | (go_at_call 75; refine (store_tot X dn t.pc 4 m _ hdl hp HM.out ?_).mono ?_; (focus (exact (show TuW w _ U X m ((t.setR 7 dn).setPC (t.R S)) from (by have hB := HH.out; (repeat (first | with_reducible exact hB | with_reducible refine TuW.drew ?_ | with_reducible refine TuW.setR7n ?_ _ | with_reducible refine TuW.setPCn ?_ _ | with_reducible refine TuW.new ?_ (by omega) _ _ | with_reducible refine TuW.alloc ?_ _)))).pm)); rintro e w1 ⟨rfl, hP1, hC1⟩; have HW1 : Hid (TuW w w1 U X (storeT m dn 4 t.pc) ((t.setR 7 dn).setPC (t.R S))) := TuW.store (m := m) (by have hB := HH.out; (repeat (first | with_reducible exact hB | with_reducible refine TuW.drew ?_ | with_reducible refine TuW.setR7n ?_ _ | with_reducible refine TuW.setPCn ?_ _ | with_reducible refine TuW.new ?_ (by omega) _ _ | with_reducible refine TuW.alloc ?_ _))) hP1 hC1; have cM1 := tu_m HW1.out.bU; have r71 := tu_reg HW1.out.bU 7 (by omega); have R71 : w1.cell? ⟨U, 8, none⟩ = some (.int .u32 dn) := r71; have l1 := HW1.out.lu; have HP1 : Hid (Own w w1 (w.heap.size + 1) (stopB 0 0)) := Own.store (by (repeat (first | with_reducible refine Own.drew ?_ | (with_reducible refine Own.last ?_ ?_; (focus (simp; done)); (focus omega)) | with_reducible refine Own.alloc ?_ _ | with_reducible refine Own.old ?_ u0 _ _ | with_reducible refine Own.other ?_ (by omega) _ _))) HH.out.hX hC1; obtain ⟨Pa1, Pb1, Pc1, Pd1⟩ := HP1.out.stop; have Pl1 := HP1.out.lt; clear hP1 hC1))
  all_goals go_wp2
  all_goals exact bodyPost_ret (v := stVV 6 (sto m dn 4)) (by simp [results, Try.results131, go_sem, u0, u1, u2, u3, u4, Pa1, Pb1, Pc1, Pd1, l1]) rfl ⟨by rw [HD.out], by
    rw [HD.out]
    have hB := HW1.out
    (repeat (first | with_reducible exact hB | with_reducible refine TuW.drew ?_ | with_reducible refine TuW.new ?_ (by omega) _ _ | with_reducible refine TuW.alloc ?_ _))⟩
end Go.Proofs.Ytkgbjpdoigdjnaa
