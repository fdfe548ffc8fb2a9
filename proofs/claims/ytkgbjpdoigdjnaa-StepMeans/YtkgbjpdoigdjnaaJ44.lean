import Derived.Test.YtkgbjpdoigdjnaaJ38
import Derived.Test.YtkgbjpdoigdjnaaJ16
import Derived.Test.YtkgbjpdoigdjnaaJ40
import Derived.Test.YtkgbjpdoigdjnaaAC
namespace Go.Proofs.Ytkgbjpdoigdjnaa
open Go.RowKit
set_option maxRecDepth 100000
set_option linter.unusedVariables false
set_option linter.unusedSimpArgs false

set_option maxHeartbeats 1000000 in
theorem loads_by (U X : Nat) (m : MS) (t : GS) (D S : Nat) (O : Int) (imm : Nat) (w : World) (H : TuW w w U X m t) (ht : t.Ok) (hi : imm < 4294967296) (hS : S < 8) (hD : D < 8) (r : Nat) (hr : r < 4294967296) (b : Option Nat) (hc : ∀ W, PM W X m → Calls Try.prog 164 #[.pointer (some ⟨X, 0, none⟩), .int .i64 O, .int .u32 (w32 ((t.R S : Int) + imm))] W fun e w' => e = .returned (.tuple #[.int .u32 r, stVV 5 b]) ∧ Below W.heap.size W w') :
    Calls Try.prog 134 #[.pointer (some ⟨U, 0, none⟩), insA 30 D S O imm] w fun e w' => e = .returned (stVV 5 b) ∧ TuW w w' U X m (t.setR D r) := by
  have HH : Hid _ := H
  have HT : Hid _ := ht
  have u0 := H.hU
  have u1 : U < w.heap.size + 1 := by omega
  have u2 : U < w.heap.size + 1 + 1 := by omega
  have u3 : U < w.heap.size + 1 + 1 + 1 := by omega
  have u4 : U < w.heap.size + 1 + 1 + 1 + 1 := by omega
  have rS := tu_reg H.bU S hS
  have rD := tu_reg H.bU D hD
  have fD := tu_fr H.bU (1 + D)
  have cM := tu_m H.bU
  have hSi : (S : Int) < 8 := by omega
  have hRS := ht.r S
  have hDi : (D : Int) < 8 := by omega
  have hRD := ht.r D
  have hp := ht.p
  have hf := ht.f
  have HC : Hid _ := hc
  clear hc
  clear H ht
  go_enter Try.func134, Try.ntmps134
  go_upto_region 1 with fail
  go_region_held3 (fun w' => w'.cell? ⟨U, 0, none⟩ = some (.pointer (some ⟨X, 0, none⟩)) ∧ w'.cell? ⟨w.heap.size, 0, none⟩ = some (.int .i64 30) ∧ w'.cell? ⟨w.heap.size, 1, none⟩ = some (.int .i64 D) ∧ w'.cell? ⟨w.heap.size, 2, none⟩ = some (.int .i64 S) ∧ w'.cell? ⟨w.heap.size, 3, none⟩ = some (.int .i64 O) ∧ w'.cell? ⟨w.heap.size, 4, none⟩ = some (.int .u32 imm)) (first | (simp [go_sem, cM2, Ia2, Ib2, Ic2, Id2, Ie2, l2, l21, Il2, Il21, Ql2]; done) | (simp [go_sem, cM2, Ia2, Ib2, Ic2, Id2, Ie2, l2, l21, Il2, Il21]; done) | (simp [go_sem, cM1, Ia1, Ib1, Ic1, Id1, Ie1, l1, l11, Il1, Il11]; done) | (simp [go_sem, cM, u0, u1, u2, u3, u4]; done))
    (first | (go_at_call 163; refine (at_any U X t 30 D S O imm _ ?_ hS HT.out hi).mono ?_; (focus (exact (show TuW w _ U X m t from (by have hB := HH.out; (repeat (first | with_reducible exact hB | with_reducible refine TuW.drew ?_ | with_reducible refine TuW.new ?_ (by omega) _ _ | with_reducible refine TuW.alloc ?_ _)))).bU)); rintro e w1 ⟨rfl, hB1⟩; have HW1 : Hid (TuW w w1 U X m t) := TuW.call (by have hB := HH.out; (repeat (first | with_reducible exact hB | with_reducible refine TuW.drew ?_ | with_reducible refine TuW.new ?_ (by omega) _ _ | with_reducible refine TuW.alloc ?_ _))) hB1; have rD1 := tu_reg HW1.out.bU D hD; have fD1 := tu_fr HW1.out.bU (1 + D); have cM1 := tu_m HW1.out.bU; have l1 := HW1.out.lu; have l11 : U < w1.heap.size + 1 := Nat.lt_succ_of_lt l1; have HP1 : Hid (Own w w1 (w.heap.size + 1) (stopB 0 0)) := Own.call (by (repeat (first | with_reducible refine Own.drew ?_ | (with_reducible refine Own.last ?_ ?_; (focus (simp; done)); (focus omega)) | with_reducible refine Own.alloc ?_ _ | with_reducible refine Own.old ?_ u0 _ _ | with_reducible refine Own.other ?_ (by omega) _ _))) hB1; obtain ⟨Pa1, Pb1, Pc1, Pd1⟩ := HP1.out.stop; have Pl1 := HP1.out.lt; have HI1 : Hid (Own w w1 (w.heap.size) (.cells #[.int .i64 30, .int .i64 D, .int .i64 S, .int .i64 O, .int .u32 imm] 26)) := Own.call (by (repeat (first | with_reducible refine Own.drew ?_ | (with_reducible refine Own.last ?_ ?_; (focus (simp; done)); (focus omega)) | with_reducible refine Own.alloc ?_ _ | with_reducible refine Own.old ?_ u0 _ _ | with_reducible refine Own.other ?_ (by omega) _ _))) hB1; obtain ⟨Ia1, Ib1, Ic1, Id1, Ie1⟩ := own_ins5 HI1.out; have Il1 := HI1.out.lt; have Il11 := Nat.lt_succ_of_lt Il1; (try (refine (fun (hQ1 : Own w w1 (w.heap.size + 1 + 1) (stopB 0 0)) => ?_) (Own.call ?_ hB1); rotate_left; (focus ((repeat (first | with_reducible refine Own.drew ?_ | (with_reducible refine Own.last ?_ ?_; (focus (first | rfl | (simp; done))); (focus (first | exact HW1.out.big | omega))) | with_reducible refine Own.alloc ?_ _)); done)); have HQ1 : Hid _ := hQ1; clear hQ1; obtain ⟨Qa1, Qb1, Qc1, Qd1⟩ := HQ1.out.stop; have Ql1 := HQ1.out.lt)); clear hB1) | (go_at_call 164; refine (HC.out _ ?_).mono ?_; (focus (exact (show TuW w _ U X m t from (by have hB := HW1.out; (repeat (first | with_reducible exact hB | with_reducible refine TuW.drew ?_ | with_reducible refine TuW.new ?_ (by omega) _ _ | with_reducible refine TuW.alloc ?_ _)))).pm)); rintro e w2 ⟨rfl, hB1⟩; have HW2 : Hid (TuW w w2 U X m t) := TuW.call (by have hB := HW1.out; (repeat (first | with_reducible exact hB | with_reducible refine TuW.drew ?_ | with_reducible refine TuW.new ?_ (by omega) _ _ | with_reducible refine TuW.alloc ?_ _))) hB1; have rD2 := tu_reg HW2.out.bU D hD; have fD2 := tu_fr HW2.out.bU (1 + D); have cM2 := tu_m HW2.out.bU; have l2 := HW2.out.lu; have l21 : U < w2.heap.size + 1 := Nat.lt_succ_of_lt l2; have HP2 : Hid (Own w w2 (w.heap.size + 1) (stopB 0 0)) := Own.call (by (repeat (first | with_reducible exact HP1.out | with_reducible refine Own.drew ?_ | (with_reducible refine Own.last ?_ ?_; (focus (simp; done)); (focus omega)) | with_reducible refine Own.alloc ?_ _ | with_reducible refine Own.old ?_ u0 _ _ | with_reducible refine Own.other ?_ (by omega) _ _))) hB1; obtain ⟨Pa2, Pb2, Pc2, Pd2⟩ := HP2.out.stop; have Pl2 := HP2.out.lt; have HI2 : Hid (Own w w2 (w.heap.size) (.cells #[.int .i64 30, .int .i64 D, .int .i64 S, .int .i64 O, .int .u32 imm] 26)) := Own.call (by (repeat (first | with_reducible exact HI1.out | with_reducible refine Own.drew ?_ | (with_reducible refine Own.last ?_ ?_; (focus (simp; done)); (focus omega)) | with_reducible refine Own.alloc ?_ _ | with_reducible refine Own.old ?_ u0 _ _ | with_reducible refine Own.other ?_ (by omega) _ _))) hB1; obtain ⟨Ia2, Ib2, Ic2, Id2, Ie2⟩ := own_ins5 HI2.out; have Il2 := HI2.out.lt; have Il21 := Nat.lt_succ_of_lt Il2; have Pl21 := Nat.lt_succ_of_lt Pl2; (first | (refine (fun (hQ2 : Own w w2 (w.heap.size + 1 + 1) (stopB 0 0)) => ?_) (Own.call ?_ hB1); rotate_left; (focus ((repeat (first | with_reducible exact HQ1.out | with_reducible refine Own.drew ?_ | (with_reducible refine Own.last ?_ ?_; (focus (first | rfl | (simp; done))); (focus (first | exact HW1.out.big | omega))) | with_reducible refine Own.alloc ?_ _)); done)); have HQ2 : Hid _ := hQ2; clear hQ2; obtain ⟨Qa2, Qb2, Qc2, Qd2⟩ := HQ2.out.stop; have Ql2 := HQ2.out.lt) | (refine (fun (hQ2 : Own w w2 (w1.heap.size) (stopB 0 0)) => ?_) (Own.call ?_ hB1); rotate_left; (focus ((repeat (first | with_reducible refine Own.drew ?_ | (with_reducible refine Own.last ?_ ?_; (focus (first | rfl | (simp; done))); (focus (first | exact HW1.out.big | omega))) | with_reducible refine Own.alloc ?_ _)); done)); have HQ2 : Hid _ := hQ2; clear hQ2; obtain ⟨Qa2, Qb2, Qc2, Qd2⟩ := HQ2.out.stop; have Ql2 := HQ2.out.lt) | skip); clear hB1))
  all_goals go_wp2
  all_goals go_region
  all_goals go_wp2
  all_goals exact bodyPost_ret (v := (stVV 5 b)) (by first | (simp [results, Try.results134, go_sem, u0, u1, u2, u3, u4, Pa2, Pb2, Pc2, Pd2, l2, l21, Pl2, Pl21, Qa2, Qb2, Qc2, Qd2, Ql2]; done) | (simp [results, Try.results134, go_sem, u0, u1, u2, u3, u4, Pa2, Pb2, Pc2, Pd2, l2, l21, Pl2, Pl21]; done)) rfl ⟨rfl, by
    have hB := HW2.out
    (repeat (first | with_reducible exact hB | with_reducible refine TuW.drew ?_ | with_reducible refine TuW.setRn ?_ _ hD _ | with_reducible refine TuW.new ?_ (by omega) _ _ | with_reducible refine TuW.alloc ?_ _))⟩
theorem load0 (U X : Nat) (m : MS) (t : GS) (D S : Nat) (imm : Nat) (w : World) (H : TuW w w U X m t) (ht : t.Ok) (hi : imm < 4294967296) (hS : S < 8) (hD : D < 8) (hm : m.Ok) :
    Calls Try.prog 134 #[.pointer (some ⟨U, 0, none⟩), insA 30 D S 0 imm] w fun e w' => e = .returned (stVV 5 (badN m 1 (w32 ((t.R S : Int) + imm)) 1)) ∧ TuW w w' U X m (t.setR D (sx 0 (ldN m (w32 ((t.R S : Int) + imm)) 1))) := by
  exact loads_by U X m t D S 0 imm w H ht hi hS hD (ldN m (w32 ((t.R S : Int) + imm)) 1) (ldN_lt hm _ _) _ fun W hW => acl0 X _ _ m W _ (w32_lt _) hm hW (ldN_cast hm _ _).symm (ldN_lt hm _ _) rfl
theorem load1 (U X : Nat) (m : MS) (t : GS) (D S : Nat) (imm : Nat) (w : World) (H : TuW w w U X m t) (ht : t.Ok) (hi : imm < 4294967296) (hS : S < 8) (hD : D < 8) (hm : m.Ok) :
    Calls Try.prog 134 #[.pointer (some ⟨U, 0, none⟩), insA 30 D S 1 imm] w fun e w' => e = .returned (stVV 5 (badN m 1 (w32 ((t.R S : Int) + imm)) 1)) ∧ TuW w w' U X m (t.setR D (sx 1 (ldN m (w32 ((t.R S : Int) + imm)) 1))) := by
  have hv1 := ldN_1 hm (w32 ((t.R S : Int) + imm))
  have hsx := sx_1 (ldN m (w32 ((t.R S : Int) + imm)) 1) hv1
  have hsm : wrap32 (((ldN m (w32 ((t.R S : Int) + imm)) 1 : Nat) : Int) * 16777216 % 4294967296) / 16777216 % 4294967296 = ((sx 1 (ldN m (w32 ((t.R S : Int) + imm)) 1) : Nat) : Int) := by rw [show ((ldN m (w32 ((t.R S : Int) + imm)) 1 : Nat) : Int) * 16777216 % 4294967296 = ((ldN m (w32 ((t.R S : Int) + imm)) 1 : Nat) : Int) * 16777216 from Int.emod_eq_of_lt (by omega) (by omega)]; exact hsx
  have hb : sx 1 (ldN m (w32 ((t.R S : Int) + imm)) 1) < 4294967296 := by unfold sx; (repeat' split) <;> omega
  exact loads_by U X m t D S 1 imm w H ht hi hS hD (sx 1 (ldN m (w32 ((t.R S : Int) + imm)) 1)) hb _ fun W hW => acl1 X (w32 ((t.R S : Int) + imm)) (ldN m (w32 ((t.R S : Int) + imm)) 1) m W _ (w32_lt _) hm hW (ldN_cast hm _ _).symm (ldN_lt hm _ _) rfl _ hsm
theorem load2 (U X : Nat) (m : MS) (t : GS) (D S : Nat) (imm : Nat) (w : World) (H : TuW w w U X m t) (ht : t.Ok) (hi : imm < 4294967296) (hS : S < 8) (hD : D < 8) (hm : m.Ok) :
    Calls Try.prog 134 #[.pointer (some ⟨U, 0, none⟩), insA 30 D S 2 imm] w fun e w' => e = .returned (stVV 5 (badN m 1 (w32 ((t.R S : Int) + imm)) 2)) ∧ TuW w w' U X m (t.setR D (sx 2 (ldN m (w32 ((t.R S : Int) + imm)) 2))) := by
  exact loads_by U X m t D S 2 imm w H ht hi hS hD (ldN m (w32 ((t.R S : Int) + imm)) 2) (ldN_lt hm _ _) _ fun W hW => acl2 X _ _ m W _ (w32_lt _) hm hW (ldN_cast hm _ _).symm (ldN_lt hm _ _) rfl
theorem load3 (U X : Nat) (m : MS) (t : GS) (D S : Nat) (imm : Nat) (w : World) (H : TuW w w U X m t) (ht : t.Ok) (hi : imm < 4294967296) (hS : S < 8) (hD : D < 8) (hm : m.Ok) :
    Calls Try.prog 134 #[.pointer (some ⟨U, 0, none⟩), insA 30 D S 3 imm] w fun e w' => e = .returned (stVV 5 (badN m 1 (w32 ((t.R S : Int) + imm)) 2)) ∧ TuW w w' U X m (t.setR D (sx 3 (ldN m (w32 ((t.R S : Int) + imm)) 2))) := by
  have hv1 := ldN_2 hm (w32 ((t.R S : Int) + imm))
  have hsx := sx_3 (ldN m (w32 ((t.R S : Int) + imm)) 2) hv1
  have hsm : wrap32 (((ldN m (w32 ((t.R S : Int) + imm)) 2 : Nat) : Int) * 65536 % 4294967296) / 65536 % 4294967296 = ((sx 3 (ldN m (w32 ((t.R S : Int) + imm)) 2) : Nat) : Int) := by rw [show ((ldN m (w32 ((t.R S : Int) + imm)) 2 : Nat) : Int) * 65536 % 4294967296 = ((ldN m (w32 ((t.R S : Int) + imm)) 2 : Nat) : Int) * 65536 from Int.emod_eq_of_lt (by omega) (by omega)]; exact hsx
  have hb : sx 3 (ldN m (w32 ((t.R S : Int) + imm)) 2) < 4294967296 := by unfold sx; (repeat' split) <;> omega
  exact loads_by U X m t D S 3 imm w H ht hi hS hD (sx 3 (ldN m (w32 ((t.R S : Int) + imm)) 2)) hb _ fun W hW => acl3 X (w32 ((t.R S : Int) + imm)) (ldN m (w32 ((t.R S : Int) + imm)) 2) m W _ (w32_lt _) hm hW (ldN_cast hm _ _).symm (ldN_lt hm _ _) rfl _ hsm
theorem load4 (U X : Nat) (m : MS) (t : GS) (D S : Nat) (imm : Nat) (w : World) (H : TuW w w U X m t) (ht : t.Ok) (hi : imm < 4294967296) (hS : S < 8) (hD : D < 8) (hm : m.Ok) :
    Calls Try.prog 134 #[.pointer (some ⟨U, 0, none⟩), insA 30 D S 4 imm] w fun e w' => e = .returned (stVV 5 (badN m 1 (w32 ((t.R S : Int) + imm)) 4)) ∧ TuW w w' U X m (t.setR D (sx 4 (ldN m (w32 ((t.R S : Int) + imm)) 4))) := by
  exact loads_by U X m t D S 4 imm w H ht hi hS hD (ldN m (w32 ((t.R S : Int) + imm)) 4) (ldN_lt hm _ _) _ fun W hW => acl4 X _ _ m W _ (w32_lt _) hm hW (ldN_cast hm _ _).symm (ldN_lt hm _ _) rfl
end Go.Proofs.Ytkgbjpdoigdjnaa
