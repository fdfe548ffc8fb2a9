import Derived.Test.YtkgbjpdoigdjnaaJ38
import Derived.Test.YtkgbjpdoigdjnaaJ16
import Derived.Test.YtkgbjpdoigdjnaaJ39
import Derived.Deep.RegionHeld3
namespace Go.Proofs.Ytkgbjpdoigdjnaa
open Go.RowKit
set_option maxRecDepth 100000
set_option linter.unusedVariables false
set_option linter.unusedSimpArgs false

theorem own_n2 (w : World) (o1 o2 o3 : Obj) : Own w (((w.alloc o1).alloc o2).alloc o3).drew (w.heap.size + 1 + 1) o3 := Own.drew (Own.last (by simp) (by omega))
theorem TuW.setFm {w W : World} {U X : Nat} {m : MS} {t : GS} (h : TuW w W U X m t) (v : Nat) : TuW w (W.setCell ⟨U, 10, none⟩ (.int .u32 ((v : Int) % 16))) U X m (t.setF (v % 16)) := by
  have := h.setFn (v % 16)
  rwa [Int.natCast_emod] at this
set_option maxHeartbeats 1000000 in
theorem pop15a (U X : Nat) (m : MS) (t : GS) (D S : Nat) (O : Int) (imm : Nat) (w : World) (H : TuW w w U X m t) (ht : t.Ok) (hi : imm < 4294967296) (hm : m.Ok) :
    Calls Try.prog 132 #[.pointer (some ⟨U, 0, none⟩), insA 15 7 S O imm] w fun e w' => e = .returned (stVV 5 (badN m 1 (t.R 7) 4)) ∧ TuW w w' U X m ((t.setR 7 (w32 ((t.R 7 : Int) + 4))).setR 7 (ldN m (t.R 7) 4)) := by
  have HH : Hid _ := H
  have HT : Hid _ := ht
  have u0 := H.hU
  have u1 : U < w.heap.size + 1 := by omega
  have u2 : U < w.heap.size + 1 + 1 := by omega
  have u3 : U < w.heap.size + 1 + 1 + 1 := by omega
  have u4 : U < w.heap.size + 1 + 1 + 1 + 1 := by omega
  have r7 := tu_reg H.bU 7 (by omega)
  have f7 := tu_fr H.bU 8
  have cM := tu_m H.bU
  have hR7 := ht.r 7
  have hp := ht.p
  have hf := ht.f
  have HM : Hid _ := hm
  have hvl := ldN_lt hm (t.R 7) 4
  clear hm
  obtain ⟨up, hup⟩ : ∃ up : Nat, ((t.R 7 : Int) + 4) % 4294967296 = up := ⟨w32 ((t.R 7 : Int) + 4), (w32_cast _).symm⟩
  have HD : Hid (w32 ((t.R 7 : Int) + 4) = up) := by
    have := w32_cast ((t.R 7 : Int) + 4)
    show w32 ((t.R 7 : Int) + 4) = up
    omega
  clear H ht
  go_enter Try.func132, Try.ntmps132
  go_wp2
  go_region_held3 (fun w' => w'.cell? ⟨U, 0, none⟩ = some (.pointer (some ⟨X, 0, none⟩)) ∧ w'.cell? ⟨U, 8, none⟩ = some (.int .u32 (t.R 7))) (first | (simp [go_sem, cM, r7, u0, u1, u2, u3]; done) | (simp [go_sem, cM1, r71, l1, l11, u0, u1, u2, u3]; done) | (simp [go_sem, cM1, r71, Ql1, l1, l11, u0, u1, u2, u3]; done))
    (first | (go_at_call 73; refine (pload_me X (t.R 7) 4 m _ hR7 HM.out ?_).mono ?_; (focus (exact (show TuW w _ U X m t from (by have hB := HH.out; (repeat (first | with_reducible exact hB | with_reducible refine TuW.drew ?_ | with_reducible refine TuW.new ?_ (by omega) _ _ | with_reducible refine TuW.alloc ?_ _)))).pm)); rintro e w1 ⟨rfl, hB1⟩; have HW1 : Hid (TuW w w1 U X m t) := TuW.call (by have hB := HH.out; (repeat (first | with_reducible exact hB | with_reducible refine TuW.drew ?_ | with_reducible refine TuW.new ?_ (by omega) _ _ | with_reducible refine TuW.alloc ?_ _))) hB1; have r71 := tu_reg HW1.out.bU 7 (by omega); have f71 := tu_fr HW1.out.bU 8; have cM1 := tu_m HW1.out.bU; have l1 := HW1.out.lu; have l11 : U < w1.heap.size + 1 := Nat.lt_succ_of_lt l1; have HI1 : Hid (Own w w1 (w.heap.size) (.cells #[.int .i64 15, .int .i64 7, .int .i64 S, .int .i64 O, .int .u32 imm] 26)) := Own.call (by (repeat (first | with_reducible refine Own.drew ?_ | (with_reducible refine Own.last ?_ ?_; (focus (simp; done)); (focus omega)) | with_reducible refine Own.alloc ?_ _ | with_reducible refine Own.old ?_ u0 _ _ | with_reducible refine Own.other ?_ (by omega) _ _))) hB1; have Ia1 : w1.cell? ⟨w.heap.size, 0, none⟩ = _ := cell_of_row _ _ 0 _ _ (0, 0) HI1.out.b; have Ib1 : w1.cell? ⟨w.heap.size, 1, none⟩ = _ := cell_of_row _ _ 1 _ _ (0, 0) HI1.out.b; simp at Ia1 Ib1; have Il1 := HI1.out.lt; have HP1 : Hid (Own w w1 (w.heap.size + 1) (stopB 0 0)) := Own.call (by (repeat (first | with_reducible refine Own.drew ?_ | (with_reducible refine Own.last ?_ ?_; (focus (simp; done)); (focus omega)) | with_reducible refine Own.alloc ?_ _ | with_reducible refine Own.old ?_ u0 _ _ | with_reducible refine Own.other ?_ (by omega) _ _))) hB1; obtain ⟨Pa1, Pb1, Pc1, Pd1⟩ := HP1.out.stop; have Pl1 := HP1.out.lt; have Il2 := Nat.lt_succ_of_lt Il1; have Pl2 := Nat.lt_succ_of_lt Pl1; have g1 := HW1.out.big; (try (have HQ1 : Hid (Own w w1 (w.heap.size + 1 + 1) (stopB 0 0)) := Own.call (own_n2 w _ _ _) hB1; obtain ⟨Qa1, Qb1, Qc1, Qd1⟩ := HQ1.out.stop; have Ql1 := HQ1.out.lt)); clear hB1))
  all_goals go_wp2
  all_goals go_region
  all_goals go_wp2
  all_goals go_region
  all_goals go_wp2
  all_goals exact bodyPost_ret (v := (stVV 5 (badN m 1 (t.R 7) 4))) (by first | (simp [results, Try.results132, go_sem, u0, u1, u2, u3, u4, Pa1, Pb1, Pc1, Pd1, l1, l11, Pl1, Pl2, Qa1, Qb1, Qc1, Qd1, Ql1]; done) | (simp [results, Try.results132, go_sem, u0, u1, u2, u3, u4, Pa1, Pb1, Pc1, Pd1, l1, l11, Pl1, Pl2]; done)) rfl ⟨rfl, by
    rw [HD.out]
    have hB := HW1.out
    (repeat (first | with_reducible exact hB | with_reducible refine TuW.drew ?_ | with_reducible refine TuW.setR7n ?_ _ | with_reducible refine TuW.setR7n ?_ _ | with_reducible refine TuW.new ?_ (by omega) _ _ | with_reducible refine TuW.alloc ?_ _))⟩
set_option maxHeartbeats 1000000 in
theorem pop15b (U X : Nat) (m : MS) (t : GS) (D S : Nat) (O : Int) (imm : Nat) (w : World) (H : TuW w w U X m t) (ht : t.Ok) (hi : imm < 4294967296) (hD : D < 8) (hm : m.Ok) (hD7 : D < 7) :
    Calls Try.prog 132 #[.pointer (some ⟨U, 0, none⟩), insA 15 D S O imm] w fun e w' => e = .returned (stVV 5 (badN m 1 (t.R 7) 4)) ∧ TuW w w' U X m ((t.setR 7 (w32 ((t.R 7 : Int) + 4))).setR D (ldN m (t.R 7) 4)) := by
  have HH : Hid _ := H
  have HT : Hid _ := ht
  have u0 := H.hU
  have u1 : U < w.heap.size + 1 := by omega
  have u2 : U < w.heap.size + 1 + 1 := by omega
  have u3 : U < w.heap.size + 1 + 1 + 1 := by omega
  have u4 : U < w.heap.size + 1 + 1 + 1 + 1 := by omega
  have rD := tu_reg H.bU D hD
  have fD := tu_fr H.bU (1 + D)
  have r7 := tu_reg H.bU 7 (by omega)
  have f7 := tu_fr H.bU 8
  have cM := tu_m H.bU
  have hDi : (D : Int) < 8 := by omega
  have hRD := ht.r D
  have hR7 := ht.r 7
  have hp := ht.p
  have hf := ht.f
  have HM : Hid _ := hm
  have hvl := ldN_lt hm (t.R 7) 4
  clear hm
  obtain ⟨up, hup⟩ : ∃ up : Nat, ((t.R 7 : Int) + 4) % 4294967296 = up := ⟨w32 ((t.R 7 : Int) + 4), (w32_cast _).symm⟩
  have HD : Hid (w32 ((t.R 7 : Int) + 4) = up) := by
    have := w32_cast ((t.R 7 : Int) + 4)
    show w32 ((t.R 7 : Int) + 4) = up
    omega
  clear H ht
  go_enter Try.func132, Try.ntmps132
  go_wp2
  go_region_held3 (fun w' => w'.cell? ⟨U, 0, none⟩ = some (.pointer (some ⟨X, 0, none⟩)) ∧ w'.cell? ⟨U, 8, none⟩ = some (.int .u32 (t.R 7))) (first | (simp [go_sem, cM, r7, u0, u1, u2, u3]; done) | (simp [go_sem, cM1, r71, l1, l11, u0, u1, u2, u3]; done) | (simp [go_sem, cM1, r71, Ql1, l1, l11, u0, u1, u2, u3]; done))
    (first | (go_at_call 73; refine (pload_me X (t.R 7) 4 m _ hR7 HM.out ?_).mono ?_; (focus (exact (show TuW w _ U X m t from (by have hB := HH.out; (repeat (first | with_reducible exact hB | with_reducible refine TuW.drew ?_ | with_reducible refine TuW.new ?_ (by omega) _ _ | with_reducible refine TuW.alloc ?_ _)))).pm)); rintro e w1 ⟨rfl, hB1⟩; have HW1 : Hid (TuW w w1 U X m t) := TuW.call (by have hB := HH.out; (repeat (first | with_reducible exact hB | with_reducible refine TuW.drew ?_ | with_reducible refine TuW.new ?_ (by omega) _ _ | with_reducible refine TuW.alloc ?_ _))) hB1; have rD1 := tu_reg HW1.out.bU D hD; have fD1 := tu_fr HW1.out.bU (1 + D); have r71 := tu_reg HW1.out.bU 7 (by omega); have f71 := tu_fr HW1.out.bU 8; have cM1 := tu_m HW1.out.bU; have l1 := HW1.out.lu; have l11 : U < w1.heap.size + 1 := Nat.lt_succ_of_lt l1; have HI1 : Hid (Own w w1 (w.heap.size) (insO 15 D S O imm)) := Own.call (by (repeat (first | with_reducible refine Own.drew ?_ | (with_reducible refine Own.last ?_ ?_; (focus (simp; done)); (focus omega)) | with_reducible refine Own.alloc ?_ _ | with_reducible refine Own.old ?_ u0 _ _ | with_reducible refine Own.other ?_ (by omega) _ _))) hB1; obtain ⟨Ia1, Ib1, Ic1, Id1, Ie1⟩ := HI1.out.ins; have Il1 := HI1.out.lt; have HP1 : Hid (Own w w1 (w.heap.size + 1) (stopB 0 0)) := Own.call (by (repeat (first | with_reducible refine Own.drew ?_ | (with_reducible refine Own.last ?_ ?_; (focus (simp; done)); (focus omega)) | with_reducible refine Own.alloc ?_ _ | with_reducible refine Own.old ?_ u0 _ _ | with_reducible refine Own.other ?_ (by omega) _ _))) hB1; obtain ⟨Pa1, Pb1, Pc1, Pd1⟩ := HP1.out.stop; have Pl1 := HP1.out.lt; have Il2 := Nat.lt_succ_of_lt Il1; have Pl2 := Nat.lt_succ_of_lt Pl1; have g1 := HW1.out.big; (try (have HQ1 : Hid (Own w w1 (w.heap.size + 1 + 1) (stopB 0 0)) := Own.call (own_n2 w _ _ _) hB1; obtain ⟨Qa1, Qb1, Qc1, Qd1⟩ := HQ1.out.stop; have Ql1 := HQ1.out.lt)); clear hB1))
  all_goals go_wp2
  all_goals go_region
  all_goals go_wp2
  all_goals go_region
  all_goals go_wp2
  all_goals exact bodyPost_ret (v := (stVV 5 (badN m 1 (t.R 7) 4))) (by first | (simp [results, Try.results132, go_sem, u0, u1, u2, u3, u4, Pa1, Pb1, Pc1, Pd1, l1, l11, Pl1, Pl2, Qa1, Qb1, Qc1, Qd1, Ql1]; done) | (simp [results, Try.results132, go_sem, u0, u1, u2, u3, u4, Pa1, Pb1, Pc1, Pd1, l1, l11, Pl1, Pl2]; done)) rfl ⟨rfl, by
    rw [HD.out]
    have hB := HW1.out
    (repeat (first | with_reducible exact hB | with_reducible refine TuW.drew ?_ | with_reducible refine TuW.setRn ?_ _ hD _ | with_reducible refine TuW.setR7n ?_ _ | with_reducible refine TuW.new ?_ (by omega) _ _ | with_reducible refine TuW.alloc ?_ _))⟩
set_option maxHeartbeats 1000000 in
theorem pop4 (U X : Nat) (m : MS) (t : GS) (D S : Nat) (O : Int) (imm : Nat) (w : World) (H : TuW w w U X m t) (ht : t.Ok) (hi : imm < 4294967296) (hm : m.Ok) :
    Calls Try.prog 132 #[.pointer (some ⟨U, 0, none⟩), insA 4 D S O imm] w fun e w' => e = .returned (stVV 5 (badN m 1 (t.R 7) 4)) ∧ TuW w w' U X m ((t.setR 7 (w32 ((t.R 7 : Int) + 4))).setF ((ldN m (t.R 7) 4) % 16)) := by
  have HH : Hid _ := H
  have HT : Hid _ := ht
  have u0 := H.hU
  have u1 : U < w.heap.size + 1 := by omega
  have u2 : U < w.heap.size + 1 + 1 := by omega
  have u3 : U < w.heap.size + 1 + 1 + 1 := by omega
  have u4 : U < w.heap.size + 1 + 1 + 1 + 1 := by omega
  have r7 := tu_reg H.bU 7 (by omega)
  have f7 := tu_fr H.bU 8
  have cF := tu_f H.bU
  have fF := tu_fr H.bU 10
  have cM := tu_m H.bU
  have hR7 := ht.r 7
  have hp := ht.p
  have hf := ht.f
  have HM : Hid _ := hm
  have hvl := ldN_lt hm (t.R 7) 4
  clear hm
  obtain ⟨up, hup⟩ : ∃ up : Nat, ((t.R 7 : Int) + 4) % 4294967296 = up := ⟨w32 ((t.R 7 : Int) + 4), (w32_cast _).symm⟩
  have HD : Hid (w32 ((t.R 7 : Int) + 4) = up) := by
    have := w32_cast ((t.R 7 : Int) + 4)
    show w32 ((t.R 7 : Int) + 4) = up
    omega
  have h15 := and15 (ldN m (t.R 7) 4) hvl
  have HN15 : Hid (((ldN m (t.R 7) 4 % 16 : Nat) : Int) = ((ldN m (t.R 7) 4 : Nat) : Int) % 16) := by show _ = _; omega
  clear H ht
  go_enter Try.func132, Try.ntmps132
  go_wp2
  go_region_held3 (fun w' => w'.cell? ⟨U, 0, none⟩ = some (.pointer (some ⟨X, 0, none⟩)) ∧ w'.cell? ⟨U, 8, none⟩ = some (.int .u32 (t.R 7))) (first | (simp [go_sem, cM, r7, u0, u1, u2, u3]; done) | (simp [go_sem, cM1, r71, l1, l11, u0, u1, u2, u3]; done) | (simp [go_sem, cM1, r71, Ql1, l1, l11, u0, u1, u2, u3]; done))
    (first | (go_at_call 73; refine (pload_me X (t.R 7) 4 m _ hR7 HM.out ?_).mono ?_; (focus (exact (show TuW w _ U X m t from (by have hB := HH.out; (repeat (first | with_reducible exact hB | with_reducible refine TuW.drew ?_ | with_reducible refine TuW.new ?_ (by omega) _ _ | with_reducible refine TuW.alloc ?_ _)))).pm)); rintro e w1 ⟨rfl, hB1⟩; have HW1 : Hid (TuW w w1 U X m t) := TuW.call (by have hB := HH.out; (repeat (first | with_reducible exact hB | with_reducible refine TuW.drew ?_ | with_reducible refine TuW.new ?_ (by omega) _ _ | with_reducible refine TuW.alloc ?_ _))) hB1; have r71 := tu_reg HW1.out.bU 7 (by omega); have f71 := tu_fr HW1.out.bU 8; have cF1 := tu_f HW1.out.bU; have fF1 := tu_fr HW1.out.bU 10; have cM1 := tu_m HW1.out.bU; have l1 := HW1.out.lu; have l11 : U < w1.heap.size + 1 := Nat.lt_succ_of_lt l1; have HI1 : Hid (Own w w1 (w.heap.size) (insO 4 D S O imm)) := Own.call (by (repeat (first | with_reducible refine Own.drew ?_ | (with_reducible refine Own.last ?_ ?_; (focus (simp; done)); (focus omega)) | with_reducible refine Own.alloc ?_ _ | with_reducible refine Own.old ?_ u0 _ _ | with_reducible refine Own.other ?_ (by omega) _ _))) hB1; obtain ⟨Ia1, Ib1, Ic1, Id1, Ie1⟩ := HI1.out.ins; have Il1 := HI1.out.lt; have HP1 : Hid (Own w w1 (w.heap.size + 1) (stopB 0 0)) := Own.call (by (repeat (first | with_reducible refine Own.drew ?_ | (with_reducible refine Own.last ?_ ?_; (focus (simp; done)); (focus omega)) | with_reducible refine Own.alloc ?_ _ | with_reducible refine Own.old ?_ u0 _ _ | with_reducible refine Own.other ?_ (by omega) _ _))) hB1; obtain ⟨Pa1, Pb1, Pc1, Pd1⟩ := HP1.out.stop; have Pl1 := HP1.out.lt; have Il2 := Nat.lt_succ_of_lt Il1; have Pl2 := Nat.lt_succ_of_lt Pl1; have g1 := HW1.out.big; (try (have HQ1 : Hid (Own w w1 (w.heap.size + 1 + 1) (stopB 0 0)) := Own.call (own_n2 w _ _ _) hB1; obtain ⟨Qa1, Qb1, Qc1, Qd1⟩ := HQ1.out.stop; have Ql1 := HQ1.out.lt)); clear hB1))
  all_goals go_wp2
  all_goals go_region
  all_goals go_wp2
  all_goals exact bodyPost_ret (v := (stVV 5 (badN m 1 (t.R 7) 4))) (by first | (simp [results, Try.results132, go_sem, u0, u1, u2, u3, u4, Pa1, Pb1, Pc1, Pd1, l1, l11, Pl1, Pl2, Qa1, Qb1, Qc1, Qd1, Ql1]; done) | (simp [results, Try.results132, go_sem, u0, u1, u2, u3, u4, Pa1, Pb1, Pc1, Pd1, l1, l11, Pl1, Pl2]; done)) rfl ⟨rfl, by
    rw [HD.out]
    have hB := HW1.out
    (repeat (first | with_reducible exact hB | with_reducible refine TuW.drew ?_ | with_reducible refine TuW.setFm ?_ _ | with_reducible refine TuW.setR7n ?_ _ | with_reducible refine TuW.new ?_ (by omega) _ _ | with_reducible refine TuW.alloc ?_ _))⟩
set_option maxHeartbeats 1000000 in
theorem pop2 (U X : Nat) (m : MS) (t : GS) (D S : Nat) (O : Int) (imm : Nat) (w : World) (H : TuW w w U X m t) (ht : t.Ok) (hi : imm < 4294967296) (hm : m.Ok) :
    Calls Try.prog 132 #[.pointer (some ⟨U, 0, none⟩), insA 2 D S O imm] w fun e w' => e = .returned (stVV 5 (badN m 1 (t.R 7) 4)) ∧ TuW w w' U X m ((t.setR 7 (w32 ((t.R 7 : Int) + 4))).setPC (ldN m (t.R 7) 4)) := by
  have HH : Hid _ := H
  have HT : Hid _ := ht
  have u0 := H.hU
  have u1 : U < w.heap.size + 1 := by omega
  have u2 : U < w.heap.size + 1 + 1 := by omega
  have u3 : U < w.heap.size + 1 + 1 + 1 := by omega
  have u4 : U < w.heap.size + 1 + 1 + 1 + 1 := by omega
  have r7 := tu_reg H.bU 7 (by omega)
  have f7 := tu_fr H.bU 8
  have c9 := tu_pc H.bU
  have f9 := tu_fr H.bU 9
  have cM := tu_m H.bU
  have hR7 := ht.r 7
  have hp := ht.p
  have hf := ht.f
  have HM : Hid _ := hm
  have hvl := ldN_lt hm (t.R 7) 4
  clear hm
  obtain ⟨up, hup⟩ : ∃ up : Nat, ((t.R 7 : Int) + 4) % 4294967296 = up := ⟨w32 ((t.R 7 : Int) + 4), (w32_cast _).symm⟩
  have HD : Hid (w32 ((t.R 7 : Int) + 4) = up) := by
    have := w32_cast ((t.R 7 : Int) + 4)
    show w32 ((t.R 7 : Int) + 4) = up
    omega
  clear H ht
  go_enter Try.func132, Try.ntmps132
  go_wp2
  go_region_held3 (fun w' => w'.cell? ⟨U, 0, none⟩ = some (.pointer (some ⟨X, 0, none⟩)) ∧ w'.cell? ⟨U, 8, none⟩ = some (.int .u32 (t.R 7))) (first | (simp [go_sem, cM, r7, u0, u1, u2, u3]; done) | (simp [go_sem, cM1, r71, l1, l11, u0, u1, u2, u3]; done) | (simp [go_sem, cM1, r71, Ql1, l1, l11, u0, u1, u2, u3]; done))
    (first | (go_at_call 73; refine (pload_me X (t.R 7) 4 m _ hR7 HM.out ?_).mono ?_; (focus (exact (show TuW w _ U X m t from (by have hB := HH.out; (repeat (first | with_reducible exact hB | with_reducible refine TuW.drew ?_ | with_reducible refine TuW.new ?_ (by omega) _ _ | with_reducible refine TuW.alloc ?_ _)))).pm)); rintro e w1 ⟨rfl, hB1⟩; have HW1 : Hid (TuW w w1 U X m t) := TuW.call (by have hB := HH.out; (repeat (first | with_reducible exact hB | with_reducible refine TuW.drew ?_ | with_reducible refine TuW.new ?_ (by omega) _ _ | with_reducible refine TuW.alloc ?_ _))) hB1; have r71 := tu_reg HW1.out.bU 7 (by omega); have f71 := tu_fr HW1.out.bU 8; have c91 := tu_pc HW1.out.bU; have f91 := tu_fr HW1.out.bU 9; have cM1 := tu_m HW1.out.bU; have l1 := HW1.out.lu; have l11 : U < w1.heap.size + 1 := Nat.lt_succ_of_lt l1; have HI1 : Hid (Own w w1 (w.heap.size) (insO 2 D S O imm)) := Own.call (by (repeat (first | with_reducible refine Own.drew ?_ | (with_reducible refine Own.last ?_ ?_; (focus (simp; done)); (focus omega)) | with_reducible refine Own.alloc ?_ _ | with_reducible refine Own.old ?_ u0 _ _ | with_reducible refine Own.other ?_ (by omega) _ _))) hB1; obtain ⟨Ia1, Ib1, Ic1, Id1, Ie1⟩ := HI1.out.ins; have Il1 := HI1.out.lt; have HP1 : Hid (Own w w1 (w.heap.size + 1) (stopB 0 0)) := Own.call (by (repeat (first | with_reducible refine Own.drew ?_ | (with_reducible refine Own.last ?_ ?_; (focus (simp; done)); (focus omega)) | with_reducible refine Own.alloc ?_ _ | with_reducible refine Own.old ?_ u0 _ _ | with_reducible refine Own.other ?_ (by omega) _ _))) hB1; obtain ⟨Pa1, Pb1, Pc1, Pd1⟩ := HP1.out.stop; have Pl1 := HP1.out.lt; have Il2 := Nat.lt_succ_of_lt Il1; have Pl2 := Nat.lt_succ_of_lt Pl1; have g1 := HW1.out.big; (try (have HQ1 : Hid (Own w w1 (w.heap.size + 1 + 1) (stopB 0 0)) := Own.call (own_n2 w _ _ _) hB1; obtain ⟨Qa1, Qb1, Qc1, Qd1⟩ := HQ1.out.stop; have Ql1 := HQ1.out.lt)); clear hB1))
  all_goals go_wp2
  all_goals go_region
  all_goals go_wp2
  all_goals exact bodyPost_ret (v := (stVV 5 (badN m 1 (t.R 7) 4))) (by first | (simp [results, Try.results132, go_sem, u0, u1, u2, u3, u4, Pa1, Pb1, Pc1, Pd1, l1, l11, Pl1, Pl2, Qa1, Qb1, Qc1, Qd1, Ql1]; done) | (simp [results, Try.results132, go_sem, u0, u1, u2, u3, u4, Pa1, Pb1, Pc1, Pd1, l1, l11, Pl1, Pl2]; done)) rfl ⟨rfl, by
    rw [HD.out]
    have hB := HW1.out
    (repeat (first | with_reducible exact hB | with_reducible refine TuW.drew ?_ | with_reducible refine TuW.setPCn ?_ _ | with_reducible refine TuW.setR7n ?_ _ | with_reducible refine TuW.new ?_ (by omega) _ _ | with_reducible refine TuW.alloc ?_ _))⟩
end Go.Proofs.Ytkgbjpdoigdjnaa

namespace Go.Proofs.Ytkgbjpdoigdjnaa
open Go.RowKit
set_option maxRecDepth 100000
set_option linter.unusedVariables false
set_option linter.unusedSimpArgs false

theorem own_ins5 {w W : World} {q : Nat} {a b c d e : Value} (h : Own w W q (.cells #[a, b, c, d, e] 26)) : W.cell? ⟨q, 0, none⟩ = some a ∧ W.cell? ⟨q, 1, none⟩ = some b ∧ W.cell? ⟨q, 2, none⟩ = some c ∧ W.cell? ⟨q, 3, none⟩ = some d ∧ W.cell? ⟨q, 4, none⟩ = some e :=
  ⟨cell_of_row _ _ 0 _ _ (0, 0) h.b, cell_of_row _ _ 1 _ _ (0, 0) h.b, cell_of_row _ _ 2 _ _ (0, 0) h.b, cell_of_row _ _ 3 _ _ (0, 0) h.b, cell_of_row _ _ 4 _ _ (0, 0) h.b⟩
theorem wrap32_eq (x : Int) : wrap32 x = (x + 2147483648) % 4294967296 - 2147483648 := by
  unfold wrap32
  omega
theorem sx_1 (v : Nat) (hv : v ≤ 255) : wrap32 ((v : Int) * 16777216) / 16777216 % 4294967296 = ((sx 1 v : Nat) : Int) := by
  rw [wrap32_eq]; unfold sx
  by_cases h : 128 ≤ v
  · rw [if_pos ⟨rfl, h⟩]; omega
  · rw [if_neg (fun x => h x.2), if_neg (fun x => by simp at x)]; omega
theorem sx_3 (v : Nat) (hv : v ≤ 65535) : wrap32 ((v : Int) * 65536) / 65536 % 4294967296 = ((sx 3 v : Nat) : Int) := by
  rw [wrap32_eq]; unfold sx
  rw [if_neg (fun x => by simp at x)]
  by_cases h : 32768 ≤ v
  · rw [if_pos ⟨rfl, h⟩]; omega
  · rw [if_neg (fun x => h x.2)]; omega
end Go.Proofs.Ytkgbjpdoigdjnaa
