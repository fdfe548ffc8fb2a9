import Derived.Test.YtkgbjpdoigdjnaaJ38
import Derived.Test.YtkgbjpdoigdjnaaJ16
import Derived.Test.YtkgbjpdoigdjnaaJ40
import Derived.Test.YtkgbjpdoigdjnaaAC
namespace Go.Proofs.Ytkgbjpdoigdjnaa
open Go.RowKit
set_option maxRecDepth 100000
set_option linter.unusedVariables false
set_option linter.unusedSimpArgs false

set_option maxHeartbeats 1000000 in
theorem stores_by (U X : Nat) (m : MS) (t : GS) (D S : Nat) (O : Int) (imm : Nat) (w : World) (H : TuW w w U X m t) (ht : t.Ok) (hi : imm < 4294967296) (hS : S < 8) (hD : D < 8) (m' : MS) (b : Option Nat) (hc : ∀ W, PM W X m → Calls Try.prog 165 #[.pointer (some ⟨X, 0, none⟩), .int .i64 O, .int .u32 (w32 ((t.R S : Int) + imm)), .int .u32 (t.R D)] W fun e w' => e = .returned (stVV 6 b) ∧ PM w' X m' ∧ Chg [X] W w') :
    Calls Try.prog 135 #[.pointer (some ⟨U, 0, none⟩), insA 31 D S O imm] w fun e w' => e = .returned (stVV 6 b) ∧ TuW w w' U X m' t := by
  have HH : Hid _ := H
  have HT : Hid _ := ht
  have u0 := H.hU
  have u1 : U < w.heap.size + 1 := by omega
  have u2 : U < w.heap.size + 1 + 1 := by omega
  have u3 : U < w.heap.size + 1 + 1 + 1 := by omega
  have u4 : U < w.heap.size + 1 + 1 + 1 + 1 := by omega
  have rS := tu_reg H.bU S hS
  have rD := tu_reg H.bU D hD
  have fD := tu_fr H.bU (1 + D)
  have cM := tu_m H.bU
  have hSi : (S : Int) < 8 := by omega
  have hRS := ht.r S
  have hDi : (D : Int) < 8 := by omega
  have hRD := ht.r D
  have hp := ht.p
  have hf := ht.f
  have HC : Hid _ := hc
  clear hc
  clear H ht
  go_enter Try.func135, Try.ntmps135
  go_upto_region 1 with fail
  go_region_held3 (fun w' => w'.cell? ⟨U, 0, none⟩ = some (.pointer (some ⟨X, 0, none⟩)) ∧ w'.cell? ⟨U, 1 + D, none⟩ = some (.int .u32 (t.R D)) ∧ w'.cell? ⟨w.heap.size, 0, none⟩ = some (.int .i64 31) ∧ w'.cell? ⟨w.heap.size, 1, none⟩ = some (.int .i64 D) ∧ w'.cell? ⟨w.heap.size, 2, none⟩ = some (.int .i64 S) ∧ w'.cell? ⟨w.heap.size, 3, none⟩ = some (.int .i64 O) ∧ w'.cell? ⟨w.heap.size, 4, none⟩ = some (.int .u32 imm)) (first | (simp [go_sem, cM2, rD2, Ia2, Ib2, Ic2, Id2, Ie2, l2, Il2, Pl2, u0, u1, u2]; done) | (simp [go_sem, cM1, rD1, Ia1, Ib1, Ic1, Id1, Ie1, l1, Il1]; done) | (simp [go_sem, cM, rD, u0, u1, u2, u3, u4]; done))
    (first | (go_at_call 163; refine (at_any U X t 31 D S O imm _ ?_ hS HT.out hi).mono ?_; (focus (exact (show TuW w _ U X m t from (by have hB := HH.out; (repeat (first | with_reducible exact hB | with_reducible refine TuW.drew ?_ | with_reducible refine TuW.new ?_ (by omega) _ _ | with_reducible refine TuW.alloc ?_ _)))).bU)); rintro e w1 ⟨rfl, hB1⟩; have HW1 : Hid (TuW w w1 U X m t) := TuW.call (by have hB := HH.out; (repeat (first | with_reducible exact hB | with_reducible refine TuW.drew ?_ | with_reducible refine TuW.new ?_ (by omega) _ _ | with_reducible refine TuW.alloc ?_ _))) hB1; have rD1 := tu_reg HW1.out.bU D hD; have fD1 := tu_fr HW1.out.bU (1 + D); have cM1 := tu_m HW1.out.bU; have l1 := HW1.out.lu; have HP1 : Hid (Own w w1 (w.heap.size + 1) (stopB 0 0)) := Own.call (by (repeat (first | with_reducible refine Own.drew ?_ | (with_reducible refine Own.last ?_ ?_; (focus (simp; done)); (focus omega)) | with_reducible refine Own.alloc ?_ _ | with_reducible refine Own.old ?_ u0 _ _ | with_reducible refine Own.other ?_ (by omega) _ _))) hB1; obtain ⟨Pa1, Pb1, Pc1, Pd1⟩ := HP1.out.stop; have Pl1 := HP1.out.lt; have HI1 : Hid (Own w w1 (w.heap.size) (.cells #[.int .i64 31, .int .i64 D, .int .i64 S, .int .i64 O, .int .u32 imm] 26)) := Own.call (by (repeat (first | with_reducible refine Own.drew ?_ | (with_reducible refine Own.last ?_ ?_; (focus (simp; done)); (focus omega)) | with_reducible refine Own.alloc ?_ _ | with_reducible refine Own.old ?_ u0 _ _ | with_reducible refine Own.other ?_ (by omega) _ _))) hB1; obtain ⟨Ia1, Ib1, Ic1, Id1, Ie1⟩ := own_ins5 HI1.out; have Il1 := HI1.out.lt; clear hB1) | (go_at_call 165; refine (HC.out _ ?_).mono ?_; (focus (exact (show TuW w _ U X m t from (by have hB := HW1.out; (repeat (first | with_reducible exact hB | with_reducible refine TuW.drew ?_ | with_reducible refine TuW.new ?_ (by omega) _ _ | with_reducible refine TuW.alloc ?_ _)))).pm)); rintro e w2 ⟨rfl, hP1, hC1⟩; have HW2 : Hid (TuW w w2 U X m' t) := TuW.store (m := m) (by have hB := HW1.out; (repeat (first | with_reducible exact hB | with_reducible refine TuW.drew ?_ | with_reducible refine TuW.new ?_ (by omega) _ _ | with_reducible refine TuW.alloc ?_ _))) hP1 hC1; have rD2 := tu_reg HW2.out.bU D hD; have fD2 := tu_fr HW2.out.bU (1 + D); have cM2 := tu_m HW2.out.bU; have l2 := HW2.out.lu; have HP2 : Hid (Own w w2 (w.heap.size + 1) (stopB 0 0)) := Own.store (by (repeat (first | with_reducible exact HP1.out | with_reducible refine Own.drew ?_ | (with_reducible refine Own.last ?_ ?_; (focus (simp; done)); (focus omega)) | with_reducible refine Own.alloc ?_ _ | with_reducible refine Own.old ?_ u0 _ _ | with_reducible refine Own.other ?_ (by omega) _ _))) HH.out.hX hC1; obtain ⟨Pa2, Pb2, Pc2, Pd2⟩ := HP2.out.stop; have Pl2 := HP2.out.lt; have HI2 : Hid (Own w w2 (w.heap.size) (.cells #[.int .i64 31, .int .i64 D, .int .i64 S, .int .i64 O, .int .u32 imm] 26)) := Own.store (by (repeat (first | with_reducible exact HI1.out | with_reducible refine Own.drew ?_ | (with_reducible refine Own.last ?_ ?_; (focus (simp; done)); (focus omega)) | with_reducible refine Own.alloc ?_ _ | with_reducible refine Own.old ?_ u0 _ _ | with_reducible refine Own.other ?_ (by omega) _ _))) HH.out.hX hC1; obtain ⟨Ia2, Ib2, Ic2, Id2, Ie2⟩ := own_ins5 HI2.out; have Il2 := HI2.out.lt; clear hP1 hC1))
  all_goals go_wp2
  all_goals exact bodyPost_ret (v := (stVV 6 b)) (by simp [results, Try.results135, go_sem, u0, u1, u2, u3, u4, Pa2, Pb2, Pc2, Pd2, l2, Pl2]) rfl ⟨rfl, by
    have hB := HW2.out
    (repeat (first | with_reducible exact hB | with_reducible refine TuW.drew ?_ | with_reducible refine TuW.new ?_ (by omega) _ _ | with_reducible refine TuW.alloc ?_ _))⟩
theorem store0 (U X : Nat) (m : MS) (t : GS) (D S : Nat) (imm : Nat) (w : World) (H : TuW w w U X m t) (ht : t.Ok) (hi : imm < 4294967296) (hS : S < 8) (hD : D < 8) (hm : m.Ok) :
    Calls Try.prog 135 #[.pointer (some ⟨U, 0, none⟩), insA 31 D S 0 imm] w fun e w' => e = .returned (stVV 6 (sto m (w32 ((t.R S : Int) + imm)) 1)) ∧ TuW w w' U X (storeT m (w32 ((t.R S : Int) + imm)) 1 (t.R D)) t := by
  exact stores_by U X m t D S 0 imm w H ht hi hS hD _ _ fun W hW => acs0 X _ _ m W _ (w32_lt _) (ht.r D) hm hW rfl
theorem store1 (U X : Nat) (m : MS) (t : GS) (D S : Nat) (imm : Nat) (w : World) (H : TuW w w U X m t) (ht : t.Ok) (hi : imm < 4294967296) (hS : S < 8) (hD : D < 8) (hm : m.Ok) :
    Calls Try.prog 135 #[.pointer (some ⟨U, 0, none⟩), insA 31 D S 1 imm] w fun e w' => e = .returned (stVV 6 (sto m (w32 ((t.R S : Int) + imm)) 2)) ∧ TuW w w' U X (storeT m (w32 ((t.R S : Int) + imm)) 2 (t.R D)) t := by
  exact stores_by U X m t D S 1 imm w H ht hi hS hD _ _ fun W hW => acs1 X _ _ m W _ (w32_lt _) (ht.r D) hm hW rfl
theorem store2 (U X : Nat) (m : MS) (t : GS) (D S : Nat) (imm : Nat) (w : World) (H : TuW w w U X m t) (ht : t.Ok) (hi : imm < 4294967296) (hS : S < 8) (hD : D < 8) (hm : m.Ok) :
    Calls Try.prog 135 #[.pointer (some ⟨U, 0, none⟩), insA 31 D S 2 imm] w fun e w' => e = .returned (stVV 6 (sto m (w32 ((t.R S : Int) + imm)) 4)) ∧ TuW w w' U X (storeT m (w32 ((t.R S : Int) + imm)) 4 (t.R D)) t := by
  exact stores_by U X m t D S 2 imm w H ht hi hS hD _ _ fun W hW => acs2 X _ _ m W _ (w32_lt _) (ht.r D) hm hW rfl
end Go.Proofs.Ytkgbjpdoigdjnaa
