import Derived.Test.YtkgbjpdoigdjnaaJ38
import Derived.Test.YtkgbjpdoigdjnaaJ16
import Derived.Test.YtkgbjpdoigdjnaaJ41
namespace Go.Proofs.Ytkgbjpdoigdjnaa
open Go.RowKit
set_option maxRecDepth 100000
set_option linter.unusedVariables false
set_option linter.unusedSimpArgs false

set_option maxHeartbeats 1000000 in
theorem set17 (U X : Nat) (m : MS) (t : GS) (D S : Nat) (O : Int) (imm : Nat) (w : World) (H : TuW w w U X m t) (ht : t.Ok) (hi : imm < 4294967296) (hD : D < 8) :
    Calls Try.prog 137 #[.pointer (some ⟨U, 0, none⟩), insA 17 D S O imm] w fun e w' => e = .returned (.tuple #[]) ∧ TuW w w' U X m ((t.setR D (w32 ((t.R D : Int) + 1))).setF (Fl.flagsF 11 (t.R D) 0 t.f).toNat) := by
  have HH : Hid _ := H
  have HT : Hid _ := ht
  have u0 := H.hU
  have u1 : U < w.heap.size + 1 := by omega
  have u2 : U < w.heap.size + 1 + 1 := by omega
  have u3 : U < w.heap.size + 1 + 1 + 1 := by omega
  have u4 : U < w.heap.size + 1 + 1 + 1 + 1 := by omega
  have rD := tu_reg H.bU D hD
  have fD := tu_fr H.bU (1 + D)
  have cF := tu_f H.bU
  have fF := tu_fr H.bU 10
  have hDi : (D : Int) < 8 := by omega
  have hRD := ht.r D
  have hp := ht.p
  have hf := ht.f
  have hx : w32 ((t.R D : Int) + 1) = (wkX 11 (t.R D) 0 t.f).toNat := by unfold w32 wkX; simp
  have HX : Hid _ := hx
  clear hx
  have HX0 : Hid (0 ≤ wkX 11 (t.R D) 0 t.f) := wkX_bd3 _ _ _ _ (by simp)
  have HF0 : Hid (0 ≤ Fl.flagsF 11 (t.R D) 0 t.f) := (flagsF_bd ..).1
  clear H ht
  go_enter Try.func137, Try.ntmps137
  go_wp2
  go_region
  all_goals go_wp2
  all_goals go_region_with (go_at_call 84; refine (work_any 11 (t.R D) 0 t.f _ hRD (by omega) hf).mono ?_; rintro e w1 ⟨rfl, hB1⟩; have HW1 : Hid (TuW w w1 U X m t) := TuW.call (by have hB := HH.out; (repeat (first | with_reducible exact hB | with_reducible refine TuW.drew ?_ | with_reducible refine TuW.new ?_ (by omega) _ _ | with_reducible refine TuW.alloc ?_ _))) hB1; have rD1 := tu_reg HW1.out.bU D hD; have fD1 := tu_fr HW1.out.bU (1 + D); have cF1 := tu_f HW1.out.bU; have fF1 := tu_fr HW1.out.bU 10; have l1 := HW1.out.lu; have HI1 : Hid (Own w w1 (w.heap.size) (insO 17 D S O imm)) := Own.call (by (repeat (first | with_reducible refine Own.drew ?_ | (with_reducible refine Own.last ?_ ?_; (focus (simp; done)); (focus omega)) | with_reducible refine Own.alloc ?_ _ | with_reducible refine Own.old ?_ u0 _ _ | with_reducible refine Own.other ?_ (by omega) _ _))) hB1; obtain ⟨Ia1, Ib1, Ic1, Id1, Ie1⟩ := HI1.out.ins; have Il1 := HI1.out.lt; clear hB1)
  all_goals go_wp2
  all_goals go_end0
  all_goals exact ⟨rfl, by
    rw [HX.out]
    have hB := HW1.out
    (repeat (first | with_reducible exact hB | with_reducible refine TuW.drew ?_ | with_reducible refine TuW.setR ?_ _ hD _ HX0.out | with_reducible refine TuW.setF ?_ _ HF0.out | with_reducible refine TuW.new ?_ (by omega) _ _ | with_reducible refine TuW.alloc ?_ _))⟩
set_option maxHeartbeats 1000000 in
theorem set18 (U X : Nat) (m : MS) (t : GS) (D S : Nat) (O : Int) (imm : Nat) (w : World) (H : TuW w w U X m t) (ht : t.Ok) (hi : imm < 4294967296) (hD : D < 8) :
    Calls Try.prog 137 #[.pointer (some ⟨U, 0, none⟩), insA 18 D S O imm] w fun e w' => e = .returned (.tuple #[]) ∧ TuW w w' U X m ((t.setR D (w32 ((t.R D : Int) - 1))).setF (Fl.flagsF 12 (t.R D) 0 t.f).toNat) := by
  have HH : Hid _ := H
  have HT : Hid _ := ht
  have u0 := H.hU
  have u1 : U < w.heap.size + 1 := by omega
  have u2 : U < w.heap.size + 1 + 1 := by omega
  have u3 : U < w.heap.size + 1 + 1 + 1 := by omega
  have u4 : U < w.heap.size + 1 + 1 + 1 + 1 := by omega
  have rD := tu_reg H.bU D hD
  have fD := tu_fr H.bU (1 + D)
  have cF := tu_f H.bU
  have fF := tu_fr H.bU 10
  have hDi : (D : Int) < 8 := by omega
  have hRD := ht.r D
  have hp := ht.p
  have hf := ht.f
  have hx : w32 ((t.R D : Int) - 1) = (wkX 12 (t.R D) 0 t.f).toNat := by unfold w32 wkX; simp
  have HX : Hid _ := hx
  clear hx
  have HX0 : Hid (0 ≤ wkX 12 (t.R D) 0 t.f) := wkX_bd3 _ _ _ _ (by simp)
  have HF0 : Hid (0 ≤ Fl.flagsF 12 (t.R D) 0 t.f) := (flagsF_bd ..).1
  clear H ht
  go_enter Try.func137, Try.ntmps137
  go_wp2
  go_region
  all_goals go_wp2
  all_goals go_region_with (go_at_call 84; refine (work_any 12 (t.R D) 0 t.f _ hRD (by omega) hf).mono ?_; rintro e w1 ⟨rfl, hB1⟩; have HW1 : Hid (TuW w w1 U X m t) := TuW.call (by have hB := HH.out; (repeat (first | with_reducible exact hB | with_reducible refine TuW.drew ?_ | with_reducible refine TuW.new ?_ (by omega) _ _ | with_reducible refine TuW.alloc ?_ _))) hB1; have rD1 := tu_reg HW1.out.bU D hD; have fD1 := tu_fr HW1.out.bU (1 + D); have cF1 := tu_f HW1.out.bU; have fF1 := tu_fr HW1.out.bU 10; have l1 := HW1.out.lu; have HI1 : Hid (Own w w1 (w.heap.size) (insO 18 D S O imm)) := Own.call (by (repeat (first | with_reducible refine Own.drew ?_ | (with_reducible refine Own.last ?_ ?_; (focus (simp; done)); (focus omega)) | with_reducible refine Own.alloc ?_ _ | with_reducible refine Own.old ?_ u0 _ _ | with_reducible refine Own.other ?_ (by omega) _ _))) hB1; obtain ⟨Ia1, Ib1, Ic1, Id1, Ie1⟩ := HI1.out.ins; have Il1 := HI1.out.lt; clear hB1)
  all_goals go_wp2
  all_goals go_end0
  all_goals exact ⟨rfl, by
    rw [HX.out]
    have hB := HW1.out
    (repeat (first | with_reducible exact hB | with_reducible refine TuW.drew ?_ | with_reducible refine TuW.setR ?_ _ hD _ HX0.out | with_reducible refine TuW.setF ?_ _ HF0.out | with_reducible refine TuW.new ?_ (by omega) _ _ | with_reducible refine TuW.alloc ?_ _))⟩
set_option maxHeartbeats 1000000 in
theorem set19 (U X : Nat) (m : MS) (t : GS) (D S : Nat) (O : Int) (imm : Nat) (w : World) (H : TuW w w U X m t) (ht : t.Ok) (hi : imm < 4294967296) (hD : D < 8) :
    Calls Try.prog 137 #[.pointer (some ⟨U, 0, none⟩), insA 19 D S O imm] w fun e w' => e = .returned (.tuple #[]) ∧ TuW w w' U X m ((t.setR D (w32 (0 - (t.R D : Int)))).setF (Fl.flagsF 3 0 (t.R D) t.f).toNat) := by
  have HH : Hid _ := H
  have HT : Hid _ := ht
  have u0 := H.hU
  have u1 : U < w.heap.size + 1 := by omega
  have u2 : U < w.heap.size + 1 + 1 := by omega
  have u3 : U < w.heap.size + 1 + 1 + 1 := by omega
  have u4 : U < w.heap.size + 1 + 1 + 1 + 1 := by omega
  have rD := tu_reg H.bU D hD
  have fD := tu_fr H.bU (1 + D)
  have cF := tu_f H.bU
  have fF := tu_fr H.bU 10
  have hDi : (D : Int) < 8 := by omega
  have hRD := ht.r D
  have hp := ht.p
  have hf := ht.f
  have hx : w32 (0 - (t.R D : Int)) = (wkX 3 0 (t.R D) t.f).toNat := by unfold w32 wkX; simp
  have HX : Hid _ := hx
  clear hx
  have HX0 : Hid (0 ≤ wkX 3 0 (t.R D) t.f) := wkX_bd3 _ _ _ _ (by simp)
  have HF0 : Hid (0 ≤ Fl.flagsF 3 0 (t.R D) t.f) := (flagsF_bd ..).1
  clear H ht
  go_enter Try.func137, Try.ntmps137
  go_wp2
  go_region
  all_goals go_wp2
  all_goals go_region_with (go_at_call 84; refine (work_any 3 0 (t.R D) t.f _ (by omega) hRD hf).mono ?_; rintro e w1 ⟨rfl, hB1⟩; have HW1 : Hid (TuW w w1 U X m t) := TuW.call (by have hB := HH.out; (repeat (first | with_reducible exact hB | with_reducible refine TuW.drew ?_ | with_reducible refine TuW.new ?_ (by omega) _ _ | with_reducible refine TuW.alloc ?_ _))) hB1; have rD1 := tu_reg HW1.out.bU D hD; have fD1 := tu_fr HW1.out.bU (1 + D); have cF1 := tu_f HW1.out.bU; have fF1 := tu_fr HW1.out.bU 10; have l1 := HW1.out.lu; have HI1 : Hid (Own w w1 (w.heap.size) (insO 19 D S O imm)) := Own.call (by (repeat (first | with_reducible refine Own.drew ?_ | (with_reducible refine Own.last ?_ ?_; (focus (simp; done)); (focus omega)) | with_reducible refine Own.alloc ?_ _ | with_reducible refine Own.old ?_ u0 _ _ | with_reducible refine Own.other ?_ (by omega) _ _))) hB1; obtain ⟨Ia1, Ib1, Ic1, Id1, Ie1⟩ := HI1.out.ins; have Il1 := HI1.out.lt; clear hB1)
  all_goals go_wp2
  all_goals go_end0
  all_goals exact ⟨rfl, by
    rw [HX.out]
    have hB := HW1.out
    (repeat (first | with_reducible exact hB | with_reducible refine TuW.drew ?_ | with_reducible refine TuW.setR ?_ _ hD _ HX0.out | with_reducible refine TuW.setF ?_ _ HF0.out | with_reducible refine TuW.new ?_ (by omega) _ _ | with_reducible refine TuW.alloc ?_ _))⟩
end Go.Proofs.Ytkgbjpdoigdjnaa
