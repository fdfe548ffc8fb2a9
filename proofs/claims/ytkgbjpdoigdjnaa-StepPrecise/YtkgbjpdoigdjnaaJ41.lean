import Derived.Test.YtkgbjpdoigdjnaaJ38
import Derived.Test.YtkgbjpdoigdjnaaJ16
namespace Go.Proofs.Ytkgbjpdoigdjnaa
open Go.RowKit
set_option maxRecDepth 100000
set_option linter.unusedVariables false
set_option linter.unusedSimpArgs false

theorem not_nat (x : Nat) (hx : x < 4294967296) : bits .xor .u32 IntKind.u32.max (x : Int) = 4294967295 - (x : Int) := by
  rw [show IntKind.u32.max = ((4294967295 : Nat) : Int) from rfl, Go.u32_xor_nat _ _ (by decide) hx]
  have h : (4294967295 ^^^ x : Nat) = 4294967295 - x := by
    have h1 : (BitVec.allOnes 32 ^^^ BitVec.ofNat 32 x).toNat = 4294967295 - x := by
      rw [BitVec.allOnes_xor, BitVec.toNat_not, BitVec.toNat_ofNat, Nat.mod_eq_of_lt hx]
    rw [BitVec.toNat_xor, BitVec.toNat_allOnes, BitVec.toNat_ofNat, Nat.mod_eq_of_lt hx] at h1
    exact h1
  rw [h]; omega
theorem w32_not (x : Nat) (hx : x < 4294967296) : w32 (4294967295 - (x : Int)) = (4294967295 - (x : Int)).toNat := by unfold w32; omega
theorem TuW.setR_zero {w W : World} {U X : Nat} {m : MS} {t : GS} (h : TuW w W U X m t) (d : Nat) (hd : d < 8) : TuW w (W.setCell ⟨U, 1 + d, none⟩ (.int .u32 0)) U X m (t.setR d 0) := h.setR d hd 0 (by decide)
theorem TuW.setR_one {w W : World} {U X : Nat} {m : MS} {t : GS} (h : TuW w W U X m t) (d : Nat) (hd : d < 8) : TuW w (W.setCell ⟨U, 1 + d, none⟩ (.int .u32 1)) U X m (t.setR d 1) := h.setR d hd 1 (by decide)
theorem GS.setR_setR (t : GS) (d a b : Nat) : (t.setR d a).setR d b = t.setR d b := by
  unfold GS.setR upd; congr 1; funext i; dsimp; split <;> simp_all
theorem wkX_bd3 (k : Int) (a b old : Nat) (hk : k = 1 ∨ k = 3 ∨ k = 11 ∨ k = 12) : 0 ≤ wkX k a b old := by
  rcases hk with rfl | rfl | rfl | rfl <;> simp [wkX] <;> omega
set_option maxHeartbeats 1000000 in
theorem set0 (U X : Nat) (m : MS) (t : GS) (D S : Nat) (O : Int) (imm : Nat) (w : World) (H : TuW w w U X m t) (ht : t.Ok) (hi : imm < 4294967296) (hD : D < 8) :
    Calls Try.prog 137 #[.pointer (some ⟨U, 0, none⟩), insA 0 D S O imm] w fun e w' => e = .returned (.tuple #[]) ∧ TuW w w' U X m t := by
  have HH : Hid _ := H
  have HT : Hid _ := ht
  have u0 := H.hU
  have u1 : U < w.heap.size + 1 := by omega
  have u2 : U < w.heap.size + 1 + 1 := by omega
  have u3 : U < w.heap.size + 1 + 1 + 1 := by omega
  have u4 : U < w.heap.size + 1 + 1 + 1 + 1 := by omega
  have rD := tu_reg H.bU D hD
  have fD := tu_fr H.bU (1 + D)
  have hDi : (D : Int) < 8 := by omega
  have hRD := ht.r D
  have hp := ht.p
  have hf := ht.f
  clear H ht
  go_enter Try.func137, Try.ntmps137
  go_wp2
  go_region
  all_goals go_wp2
  all_goals go_end0
  all_goals exact ⟨rfl, by
    have hB := HH.out
    (repeat (first | with_reducible exact hB | with_reducible refine TuW.drew ?_ | with_reducible refine TuW.new ?_ (by omega) _ _ | with_reducible refine TuW.alloc ?_ _))⟩
set_option maxHeartbeats 1000000 in
theorem set16 (U X : Nat) (m : MS) (t : GS) (D S : Nat) (O : Int) (imm : Nat) (w : World) (H : TuW w w U X m t) (ht : t.Ok) (hi : imm < 4294967296) (hD : D < 8) :
    Calls Try.prog 137 #[.pointer (some ⟨U, 0, none⟩), insA 16 D S O imm] w fun e w' => e = .returned (.tuple #[]) ∧ TuW w w' U X m (t.setR D imm) := by
  have HH : Hid _ := H
  have HT : Hid _ := ht
  have u0 := H.hU
  have u1 : U < w.heap.size + 1 := by omega
  have u2 : U < w.heap.size + 1 + 1 := by omega
  have u3 : U < w.heap.size + 1 + 1 + 1 := by omega
  have u4 : U < w.heap.size + 1 + 1 + 1 + 1 := by omega
  have rD := tu_reg H.bU D hD
  have fD := tu_fr H.bU (1 + D)
  have hDi : (D : Int) < 8 := by omega
  have hRD := ht.r D
  have hp := ht.p
  have hf := ht.f
  clear H ht
  go_enter Try.func137, Try.ntmps137
  go_wp2
  go_region
  all_goals go_wp2
  all_goals go_end0
  all_goals exact ⟨rfl, by
    have hB := HH.out
    (repeat (first | with_reducible exact hB | with_reducible refine TuW.drew ?_ | with_reducible refine TuW.setRn ?_ _ hD _ | with_reducible refine TuW.new ?_ (by omega) _ _ | with_reducible refine TuW.alloc ?_ _))⟩
set_option maxHeartbeats 1000000 in
theorem set22 (U X : Nat) (m : MS) (t : GS) (D S : Nat) (O : Int) (imm : Nat) (w : World) (H : TuW w w U X m t) (ht : t.Ok) (hi : imm < 4294967296) (hS : S < 8) (hD : D < 8) :
    Calls Try.prog 137 #[.pointer (some ⟨U, 0, none⟩), insA 22 D S O imm] w fun e w' => e = .returned (.tuple #[]) ∧ TuW w w' U X m (t.setR D (t.R S)) := by
  have HH : Hid _ := H
  have HT : Hid _ := ht
  have u0 := H.hU
  have u1 : U < w.heap.size + 1 := by omega
  have u2 : U < w.heap.size + 1 + 1 := by omega
  have u3 : U < w.heap.size + 1 + 1 + 1 := by omega
  have u4 : U < w.heap.size + 1 + 1 + 1 + 1 := by omega
  have rS := tu_reg H.bU S hS
  have rD := tu_reg H.bU D hD
  have fD := tu_fr H.bU (1 + D)
  have hSi : (S : Int) < 8 := by omega
  have hRS := ht.r S
  have hDi : (D : Int) < 8 := by omega
  have hRD := ht.r D
  have hp := ht.p
  have hf := ht.f
  clear H ht
  go_enter Try.func137, Try.ntmps137
  go_wp2
  go_region
  all_goals go_wp2
  all_goals go_region
  all_goals go_wp2
  all_goals go_end0
  all_goals exact ⟨rfl, by
    have hB := HH.out
    (repeat (first | with_reducible exact hB | with_reducible refine TuW.drew ?_ | with_reducible refine TuW.setRn ?_ _ hD _ | with_reducible refine TuW.new ?_ (by omega) _ _ | with_reducible refine TuW.alloc ?_ _))⟩
set_option maxHeartbeats 1000000 in
theorem set20 (U X : Nat) (m : MS) (t : GS) (D S : Nat) (O : Int) (imm : Nat) (w : World) (H : TuW w w U X m t) (ht : t.Ok) (hi : imm < 4294967296) (hD : D < 8) :
    Calls Try.prog 137 #[.pointer (some ⟨U, 0, none⟩), insA 20 D S O imm] w fun e w' => e = .returned (.tuple #[]) ∧ TuW w w' U X m (t.setR D (w32 (4294967295 - (t.R D : Int)))) := by
  have HH : Hid _ := H
  have HT : Hid _ := ht
  have u0 := H.hU
  have u1 : U < w.heap.size + 1 := by omega
  have u2 : U < w.heap.size + 1 + 1 := by omega
  have u3 : U < w.heap.size + 1 + 1 + 1 := by omega
  have u4 : U < w.heap.size + 1 + 1 + 1 + 1 := by omega
  have rD := tu_reg H.bU D hD
  have fD := tu_fr H.bU (1 + D)
  have hDi : (D : Int) < 8 := by omega
  have hRD := ht.r D
  have hp := ht.p
  have hf := ht.f
  have hx := not_nat (t.R D) (ht.r D)
  have HX : Hid _ := w32_not (t.R D) (ht.r D)
  clear H ht
  go_enter Try.func137, Try.ntmps137
  go_wp2
  go_region
  all_goals go_wp2
  all_goals go_end0
  all_goals exact ⟨rfl, by
    rw [HX.out]
    have hB := HH.out
    (repeat (first | with_reducible exact hB | with_reducible refine TuW.drew ?_ | with_reducible refine TuW.setR ?_ _ hD _ (by omega) | with_reducible refine TuW.new ?_ (by omega) _ _ | with_reducible refine TuW.alloc ?_ _))⟩
set_option maxHeartbeats 1000000 in
theorem set23 (U X : Nat) (m : MS) (t : GS) (D S : Nat) (O : Int) (imm : Nat) (w : World) (H : TuW w w U X m t) (ht : t.Ok) (hi : imm < 4294967296) (hS : S < 8) (hD : D < 8) :
    Calls Try.prog 137 #[.pointer (some ⟨U, 0, none⟩), insA 23 D S O imm] w fun e w' => e = .returned (.tuple #[]) ∧ TuW w w' U X m (t.setR D (w32 ((t.R S : Int) + imm))) := by
  have HH : Hid _ := H
  have HT : Hid _ := ht
  have u0 := H.hU
  have u1 : U < w.heap.size + 1 := by omega
  have u2 : U < w.heap.size + 1 + 1 := by omega
  have u3 : U < w.heap.size + 1 + 1 + 1 := by omega
  have u4 : U < w.heap.size + 1 + 1 + 1 + 1 := by omega
  have rS := tu_reg H.bU S hS
  have rD := tu_reg H.bU D hD
  have fD := tu_fr H.bU (1 + D)
  have hSi : (S : Int) < 8 := by omega
  have hRS := ht.r S
  have hDi : (D : Int) < 8 := by omega
  have hRD := ht.r D
  have hp := ht.p
  have hf := ht.f
  clear H ht
  go_enter Try.func137, Try.ntmps137
  go_wp2
  go_region
  all_goals go_wp2_with (go_at_call 163; refine (at_any U X t 23 D S O imm _ ?_ hS HT.out hi).mono ?_; (focus (exact (show TuW w _ U X m t from (by have hB := HH.out; (repeat (first | with_reducible exact hB | with_reducible refine TuW.drew ?_ | with_reducible refine TuW.new ?_ (by omega) _ _ | with_reducible refine TuW.alloc ?_ _)))).bU)); rintro e w1 ⟨rfl, hB1⟩; have HW1 : Hid (TuW w w1 U X m t) := TuW.call (by have hB := HH.out; (repeat (first | with_reducible exact hB | with_reducible refine TuW.drew ?_ | with_reducible refine TuW.new ?_ (by omega) _ _ | with_reducible refine TuW.alloc ?_ _))) hB1; have rD1 := tu_reg HW1.out.bU D hD; have fD1 := tu_fr HW1.out.bU (1 + D); have l1 := HW1.out.lu; have HI1 : Hid (Own w w1 (w.heap.size) (insO 23 D S O imm)) := Own.call (by (repeat (first | with_reducible refine Own.drew ?_ | (with_reducible refine Own.last ?_ ?_; (focus (simp; done)); (focus omega)) | with_reducible refine Own.alloc ?_ _ | with_reducible refine Own.old ?_ u0 _ _ | with_reducible refine Own.other ?_ (by omega) _ _))) hB1; obtain ⟨Ia1, Ib1, Ic1, Id1, Ie1⟩ := HI1.out.ins; have Il1 := HI1.out.lt; clear hB1)
  all_goals go_end0
  all_goals exact ⟨rfl, by
    have hB := HW1.out
    (repeat (first | with_reducible exact hB | with_reducible refine TuW.drew ?_ | with_reducible refine TuW.setRn ?_ _ hD _ | with_reducible refine TuW.new ?_ (by omega) _ _ | with_reducible refine TuW.alloc ?_ _))⟩
end Go.Proofs.Ytkgbjpdoigdjnaa

namespace Go.Proofs.Ytkgbjpdoigdjnaa
open Go.RowKit
set_option maxRecDepth 100000
set_option linter.unusedVariables false
set_option linter.unusedSimpArgs false

set_option maxHeartbeats 1000000 in
theorem set21t (U X : Nat) (m : MS) (t : GS) (D S : Nat) (O : Int) (imm : Nat) (w : World) (H : TuW w w U X m t) (ht : t.Ok) (hi : imm < 4294967296) (hD : D < 8) (hO : O ≤ 9223372036854775807) (hb : Fl.holdsF O t.f = true) :
    Calls Try.prog 137 #[.pointer (some ⟨U, 0, none⟩), insA 21 D S O imm] w fun e w' => e = .returned (.tuple #[]) ∧ TuW w w' U X m (t.setR D 1) := by
  have HH : Hid _ := H
  have HT : Hid _ := ht
  have u0 := H.hU
  have u1 : U < w.heap.size + 1 := by omega
  have u2 : U < w.heap.size + 1 + 1 := by omega
  have u3 : U < w.heap.size + 1 + 1 + 1 := by omega
  have u4 : U < w.heap.size + 1 + 1 + 1 + 1 := by omega
  have rD := tu_reg H.bU D hD
  have fD := tu_fr H.bU (1 + D)
  have cF := tu_f H.bU
  have fF := tu_fr H.bU 10
  have hDi : (D : Int) < 8 := by omega
  have hRD := ht.r D
  have hp := ht.p
  have hf := ht.f
  have HB : Hid _ := hb
  clear hb
  clear H ht
  go_enter Try.func137, Try.ntmps137
  go_wp2
  go_region
  all_goals go_wp2
  all_goals go_region_with (go_at_call 33; refine (pholds_me O t.f true _ HB.out hf hO).mono ?_; rintro e w1 ⟨rfl, hB1⟩; have HW1 : Hid (TuW w w1 U X m (t.setR D 0)) := TuW.call (by have hB := HH.out; (repeat (first | with_reducible exact hB | with_reducible refine TuW.drew ?_ | with_reducible refine TuW.setR_zero ?_ _ hD | with_reducible refine TuW.new ?_ (by omega) _ _ | with_reducible refine TuW.alloc ?_ _))) hB1; have rD1 := tu_reg HW1.out.bU D hD; have fD1 := tu_fr HW1.out.bU (1 + D); have cF1 := tu_f HW1.out.bU; have fF1 := tu_fr HW1.out.bU 10; have l1 := HW1.out.lu; have HI1 : Hid (Own w w1 (w.heap.size) (insO 21 D S O imm)) := Own.call (by (repeat (first | with_reducible refine Own.drew ?_ | (with_reducible refine Own.last ?_ ?_; (focus (simp; done)); (focus omega)) | with_reducible refine Own.alloc ?_ _ | with_reducible refine Own.old ?_ u0 _ _ | with_reducible refine Own.other ?_ (by omega) _ _))) hB1; obtain ⟨Ia1, Ib1, Ic1, Id1, Ie1⟩ := HI1.out.ins; have Il1 := HI1.out.lt; clear hB1)
  all_goals go_wp2
  all_goals go_end0
  all_goals exact ⟨rfl, by
    rw [← GS.setR_setR t D 0 1]
    have hB := HW1.out
    (repeat (first | with_reducible exact hB | with_reducible refine TuW.drew ?_ | with_reducible refine TuW.setR_one ?_ _ hD | with_reducible refine TuW.new ?_ (by omega) _ _ | with_reducible refine TuW.alloc ?_ _))⟩
set_option maxHeartbeats 1000000 in
theorem set21f (U X : Nat) (m : MS) (t : GS) (D S : Nat) (O : Int) (imm : Nat) (w : World) (H : TuW w w U X m t) (ht : t.Ok) (hi : imm < 4294967296) (hD : D < 8) (hO : O ≤ 9223372036854775807) (hb : Fl.holdsF O t.f = false) :
    Calls Try.prog 137 #[.pointer (some ⟨U, 0, none⟩), insA 21 D S O imm] w fun e w' => e = .returned (.tuple #[]) ∧ TuW w w' U X m (t.setR D 0) := by
  have HH : Hid _ := H
  have HT : Hid _ := ht
  have u0 := H.hU
  have u1 : U < w.heap.size + 1 := by omega
  have u2 : U < w.heap.size + 1 + 1 := by omega
  have u3 : U < w.heap.size + 1 + 1 + 1 := by omega
  have u4 : U < w.heap.size + 1 + 1 + 1 + 1 := by omega
  have rD := tu_reg H.bU D hD
  have fD := tu_fr H.bU (1 + D)
  have cF := tu_f H.bU
  have fF := tu_fr H.bU 10
  have hDi : (D : Int) < 8 := by omega
  have hRD := ht.r D
  have hp := ht.p
  have hf := ht.f
  have HB : Hid _ := hb
  clear hb
  clear H ht
  go_enter Try.func137, Try.ntmps137
  go_wp2
  go_region
  all_goals go_wp2
  all_goals go_region_with (go_at_call 33; refine (pholds_me O t.f false _ HB.out hf hO).mono ?_; rintro e w1 ⟨rfl, hB1⟩; have HW1 : Hid (TuW w w1 U X m (t.setR D 0)) := TuW.call (by have hB := HH.out; (repeat (first | with_reducible exact hB | with_reducible refine TuW.drew ?_ | with_reducible refine TuW.setR_zero ?_ _ hD | with_reducible refine TuW.new ?_ (by omega) _ _ | with_reducible refine TuW.alloc ?_ _))) hB1; have rD1 := tu_reg HW1.out.bU D hD; have fD1 := tu_fr HW1.out.bU (1 + D); have cF1 := tu_f HW1.out.bU; have fF1 := tu_fr HW1.out.bU 10; have l1 := HW1.out.lu; have HI1 : Hid (Own w w1 (w.heap.size) (insO 21 D S O imm)) := Own.call (by (repeat (first | with_reducible refine Own.drew ?_ | (with_reducible refine Own.last ?_ ?_; (focus (simp; done)); (focus omega)) | with_reducible refine Own.alloc ?_ _ | with_reducible refine Own.old ?_ u0 _ _ | with_reducible refine Own.other ?_ (by omega) _ _))) hB1; obtain ⟨Ia1, Ib1, Ic1, Id1, Ie1⟩ := HI1.out.ins; have Il1 := HI1.out.lt; clear hB1)
  all_goals go_wp2
  all_goals go_end0
  all_goals exact ⟨rfl, by
    have hB := HW1.out
    (repeat (first | with_reducible exact hB | with_reducible refine TuW.drew ?_ | with_reducible refine TuW.setR_one ?_ _ hD | with_reducible refine TuW.new ?_ (by omega) _ _ | with_reducible refine TuW.alloc ?_ _))⟩
end Go.Proofs.Ytkgbjpdoigdjnaa
