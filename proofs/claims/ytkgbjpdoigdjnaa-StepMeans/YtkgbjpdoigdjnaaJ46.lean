import Derived.Test.YtkgbjpdoigdjnaaJ38
import Derived.Test.YtkgbjpdoigdjnaaJ16
import Derived.Test.YtkgbjpdoigdjnaaJ40
namespace Go.Proofs.Ytkgbjpdoigdjnaa
open Go.RowKit
set_option maxRecDepth 100000
set_option linter.unusedVariables false
set_option linter.unusedSimpArgs false

theorem pload_ok (X a : Nat) (m : MS) (w : World) (hb : badN m 1 a 4 = none) (ha : a < 4294967296) (hm : m.Ok) (h : PM w X m) :
    Calls Try.prog 73 #[.pointer (some ⟨X, 0, none⟩), .int .u32 a, .int .i64 4] w fun e w' => e = .returned (.tuple #[.int .u32 (ldN m a 4), .agg #[.int .i64 0, .int .u32 0]]) ∧ Below w.heap.size w w' := by
  have := pload_me X a 4 m w ha hm h
  rw [show (4 : Int).toNat = 4 from rfl, hb] at this
  exact this
theorem pload_bad (X a x : Nat) (m : MS) (w : World) (hb : badN m 1 a 4 = some x) (ha : a < 4294967296) (hm : m.Ok) (h : PM w X m) :
    Calls Try.prog 73 #[.pointer (some ⟨X, 0, none⟩), .int .u32 a, .int .i64 4] w fun e w' => e = .returned (.tuple #[.int .u32 (ldN m a 4), .agg #[.int .i64 5, .int .u32 x]]) ∧ Below w.heap.size w w' := by
  have := pload_me X a 4 m w ha hm h
  rw [show (4 : Int).toNat = 4 from rfl, hb] at this
  exact this
theorem work_me (k : Int) (a b old x g : Nat) (w : World) (hx : wkX k a b old = x) (hg : Fl.flagsF k a b old = g) (ha : a < 4294967296) (hb : b < 4294967296) (ho : old < 4294967296) :
    Calls Try.prog 84 #[.int .i64 k, .int .u32 a, .int .u32 b, .int .u32 old] w fun e w' => e = .returned (.tuple #[.int .u32 x, .int .u32 g]) ∧ Below w.heap.size w w' := by
  have := work_any k a b old w ha hb ho
  rw [hx, hg] at this; exact this
theorem pflags_me (k : Int) (a b old g : Nat) (w : World) (hg : Fl.flagsF k a b old = g) (ha : a < 4294967296) (hb : b < 4294967296) (ho : old < 4294967296) :
    Calls Try.prog 31 #[.int .i64 k, .int .u32 a, .int .u32 b, .int .u32 old] w fun e w' => e = .returned (.int .u32 g) ∧ Below w.heap.size w w' := by
  have := pflags_any k a b old w ha hb ho
  rw [hg] at this; exact this
set_option maxHeartbeats 1000000 in
theorem swap24b (U X : Nat) (m : MS) (t : GS) (D S : Nat) (O : Int) (imm : Nat) (w : World) (H : TuW w w U X m t) (ht : t.Ok) (hi : imm < 4294967296) (hS : S < 8) (hD : D < 8) (hm : m.Ok) (x : Nat) (hbad : badN m 1 (w32 ((t.R S : Int) + imm)) 4 = some x) :
    Calls Try.prog 136 #[.pointer (some ⟨U, 0, none⟩), insA 24 D S O imm] w fun e w' => e = .returned (.agg #[.int .i64 5, .int .u32 x]) ∧ TuW w w' U X m t := by
  have HH : Hid _ := H
  have HT : Hid _ := ht
  have u0 := H.hU
  have u1 : U < w.heap.size + 1 := by omega
  have u2 : U < w.heap.size + 1 + 1 := by omega
  have u3 : U < w.heap.size + 1 + 1 + 1 := by omega
  have u4 : U < w.heap.size + 1 + 1 + 1 + 1 := by omega
  have rS := tu_reg H.bU S hS
  have rD := tu_reg H.bU D hD
  have fD := tu_fr H.bU (1 + D)
  have cF := tu_f H.bU
  have fF := tu_fr H.bU 10
  have cM := tu_m H.bU
  have hSi : (S : Int) < 8 := by omega
  have hRS := ht.r S
  have hDi : (D : Int) < 8 := by omega
  have hRD := ht.r D
  have hp := ht.p
  have hf := ht.f
  have HM : Hid _ := hm
  have HA : Hid _ := w32_lt ((t.R S : Int) + imm)
  have hvl := ldN_lt hm (w32 ((t.R S : Int) + imm)) 4
  have HBad : Hid _ := hbad
  clear hm hbad
  clear H ht
  go_enter Try.func136, Try.ntmps136
  go_wp2_with (first | (go_at_call 163; refine (at_any U X t 24 D S O imm _ ?_ hS HT.out hi).mono ?_; (focus (exact (show TuW w _ U X m t from (by have hB := HH.out; (repeat (first | with_reducible exact hB | with_reducible refine TuW.drew ?_ | with_reducible refine TuW.new ?_ (by omega) _ _ | with_reducible refine TuW.alloc ?_ _)))).bU)); rintro e w1 ⟨rfl, hB1⟩; have HW1 : Hid (TuW w w1 U X m t) := TuW.call (by have hB := HH.out; (repeat (first | with_reducible exact hB | with_reducible refine TuW.drew ?_ | with_reducible refine TuW.new ?_ (by omega) _ _ | with_reducible refine TuW.alloc ?_ _))) hB1; have cM1 := tu_m HW1.out.bU; have l1 := HW1.out.lu; have HI1 : Hid (Own w w1 (w.heap.size) (insO 24 D S O imm)) := Own.call (by (repeat (first | with_reducible refine Own.drew ?_ | (with_reducible refine Own.last ?_ ?_; (focus (simp; done)); (focus omega)) | with_reducible refine Own.alloc ?_ _ | with_reducible refine Own.old ?_ u0 _ _ | with_reducible refine Own.other ?_ (by omega) _ _))) hB1; obtain ⟨Ia1, Ib1, Ic1, Id1, Ie1⟩ := HI1.out.ins; have Il1 := HI1.out.lt; have HP1 : Hid (Own w w1 (w.heap.size + 1) (stopB 0 0)) := Own.call (by (repeat (first | with_reducible refine Own.drew ?_ | (with_reducible refine Own.last ?_ ?_; (focus (simp; done)); (focus omega)) | with_reducible refine Own.alloc ?_ _ | with_reducible refine Own.old ?_ u0 _ _ | with_reducible refine Own.other ?_ (by omega) _ _))) hB1; obtain ⟨Pa1, Pb1, Pc1, Pd1⟩ := HP1.out.stop; have Pl1 := HP1.out.lt; clear hB1) | (go_at_call 73; refine (pload_bad X (w32 ((t.R S : Int) + imm)) x m _ HBad.out HA.out HM.out ?_).mono ?_; (focus (exact (show TuW w _ U X m t from (by have hB := HW1.out; (repeat (first | with_reducible exact hB | with_reducible refine TuW.drew ?_ | with_reducible refine TuW.new ?_ (by omega) _ _ | with_reducible refine TuW.alloc ?_ _)))).pm)); rintro e w2 ⟨rfl, hB1⟩; have HW2 : Hid (TuW w w2 U X m t) := TuW.call (by have hB := HW1.out; (repeat (first | with_reducible exact hB | with_reducible refine TuW.drew ?_ | with_reducible refine TuW.new ?_ (by omega) _ _ | with_reducible refine TuW.alloc ?_ _))) hB1; have rD2 := tu_reg HW2.out.bU D hD; have fD2 := tu_fr HW2.out.bU (1 + D); have cF2 := tu_f HW2.out.bU; have fF2 := tu_fr HW2.out.bU 10; have cM2 := tu_m HW2.out.bU; have l2 := HW2.out.lu; have l21 : U < w2.heap.size + 1 := Nat.lt_succ_of_lt l2; have HI2 : Hid (Own w w2 (w.heap.size) (insO 24 D S O imm)) := Own.call (by (repeat (first | with_reducible exact HI1.out | with_reducible refine Own.drew ?_ | (with_reducible refine Own.last ?_ ?_; (focus (simp; done)); (focus omega)) | with_reducible refine Own.alloc ?_ _ | with_reducible refine Own.old ?_ u0 _ _ | with_reducible refine Own.other ?_ (by omega) _ _))) hB1; obtain ⟨Ia2, Ib2, Ic2, Id2, Ie2⟩ := HI2.out.ins; have Il2 := HI2.out.lt; have HP2 : Hid (Own w w2 (w.heap.size + 1) (stopB 0 0)) := Own.call (by (repeat (first | with_reducible exact HP1.out | with_reducible refine Own.drew ?_ | (with_reducible refine Own.last ?_ ?_; (focus (simp; done)); (focus omega)) | with_reducible refine Own.alloc ?_ _ | with_reducible refine Own.old ?_ u0 _ _ | with_reducible refine Own.other ?_ (by omega) _ _))) hB1; obtain ⟨Pa2, Pb2, Pc2, Pd2⟩ := HP2.out.stop; have Pl2 := HP2.out.lt; have Il21 := Nat.lt_succ_of_lt Il2; have Pl21 := Nat.lt_succ_of_lt Pl2; clear hB1))
  all_goals exact bodyPost_ret (v := (.agg #[.int .i64 5, .int .u32 x])) (by simp [results, Try.results136, go_sem, stK, stA, u0, u1, u2, u3, u4, Pa2, Pb2, Pc2, Pd2, l2, l21, Pl2, Pl21]) rfl ⟨rfl, by
    have hB := HW2.out
    (repeat (first | with_reducible exact hB | with_reducible refine TuW.drew ?_ | with_reducible refine TuW.new ?_ (by omega) _ _ | with_reducible refine TuW.alloc ?_ _))⟩
set_option maxHeartbeats 1000000 in
theorem swap25b (U X : Nat) (m : MS) (t : GS) (D S : Nat) (O : Int) (imm : Nat) (w : World) (H : TuW w w U X m t) (ht : t.Ok) (hi : imm < 4294967296) (hS : S < 8) (hD : D < 8) (hm : m.Ok) (x : Nat) (hbad : badN m 1 (w32 ((t.R S : Int) + imm)) 4 = some x) :
    Calls Try.prog 136 #[.pointer (some ⟨U, 0, none⟩), insA 25 D S O imm] w fun e w' => e = .returned (.agg #[.int .i64 5, .int .u32 x]) ∧ TuW w w' U X m t := by
  have HH : Hid _ := H
  have HT : Hid _ := ht
  have u0 := H.hU
  have u1 : U < w.heap.size + 1 := by omega
  have u2 : U < w.heap.size + 1 + 1 := by omega
  have u3 : U < w.heap.size + 1 + 1 + 1 := by omega
  have u4 : U < w.heap.size + 1 + 1 + 1 + 1 := by omega
  have rS := tu_reg H.bU S hS
  have rD := tu_reg H.bU D hD
  have fD := tu_fr H.bU (1 + D)
  have cF := tu_f H.bU
  have fF := tu_fr H.bU 10
  have cM := tu_m H.bU
  have hSi : (S : Int) < 8 := by omega
  have hRS := ht.r S
  have hDi : (D : Int) < 8 := by omega
  have hRD := ht.r D
  have hp := ht.p
  have hf := ht.f
  have HM : Hid _ := hm
  have HA : Hid _ := w32_lt ((t.R S : Int) + imm)
  have hvl := ldN_lt hm (w32 ((t.R S : Int) + imm)) 4
  have HBad : Hid _ := hbad
  clear hm hbad
  clear H ht
  go_enter Try.func136, Try.ntmps136
  go_wp2_with (first | (go_at_call 163; refine (at_any U X t 25 D S O imm _ ?_ hS HT.out hi).mono ?_; (focus (exact (show TuW w _ U X m t from (by have hB := HH.out; (repeat (first | with_reducible exact hB | with_reducible refine TuW.drew ?_ | with_reducible refine TuW.new ?_ (by omega) _ _ | with_reducible refine TuW.alloc ?_ _)))).bU)); rintro e w1 ⟨rfl, hB1⟩; have HW1 : Hid (TuW w w1 U X m t) := TuW.call (by have hB := HH.out; (repeat (first | with_reducible exact hB | with_reducible refine TuW.drew ?_ | with_reducible refine TuW.new ?_ (by omega) _ _ | with_reducible refine TuW.alloc ?_ _))) hB1; have cM1 := tu_m HW1.out.bU; have l1 := HW1.out.lu; have HI1 : Hid (Own w w1 (w.heap.size) (insO 25 D S O imm)) := Own.call (by (repeat (first | with_reducible refine Own.drew ?_ | (with_reducible refine Own.last ?_ ?_; (focus (simp; done)); (focus omega)) | with_reducible refine Own.alloc ?_ _ | with_reducible refine Own.old ?_ u0 _ _ | with_reducible refine Own.other ?_ (by omega) _ _))) hB1; obtain ⟨Ia1, Ib1, Ic1, Id1, Ie1⟩ := HI1.out.ins; have Il1 := HI1.out.lt; have HP1 : Hid (Own w w1 (w.heap.size + 1) (stopB 0 0)) := Own.call (by (repeat (first | with_reducible refine Own.drew ?_ | (with_reducible refine Own.last ?_ ?_; (focus (simp; done)); (focus omega)) | with_reducible refine Own.alloc ?_ _ | with_reducible refine Own.old ?_ u0 _ _ | with_reducible refine Own.other ?_ (by omega) _ _))) hB1; obtain ⟨Pa1, Pb1, Pc1, Pd1⟩ := HP1.out.stop; have Pl1 := HP1.out.lt; clear hB1) | (go_at_call 73; refine (pload_bad X (w32 ((t.R S : Int) + imm)) x m _ HBad.out HA.out HM.out ?_).mono ?_; (focus (exact (show TuW w _ U X m t from (by have hB := HW1.out; (repeat (first | with_reducible exact hB | with_reducible refine TuW.drew ?_ | with_reducible refine TuW.new ?_ (by omega) _ _ | with_reducible refine TuW.alloc ?_ _)))).pm)); rintro e w2 ⟨rfl, hB1⟩; have HW2 : Hid (TuW w w2 U X m t) := TuW.call (by have hB := HW1.out; (repeat (first | with_reducible exact hB | with_reducible refine TuW.drew ?_ | with_reducible refine TuW.new ?_ (by omega) _ _ | with_reducible refine TuW.alloc ?_ _))) hB1; have rD2 := tu_reg HW2.out.bU D hD; have fD2 := tu_fr HW2.out.bU (1 + D); have cF2 := tu_f HW2.out.bU; have fF2 := tu_fr HW2.out.bU 10; have cM2 := tu_m HW2.out.bU; have l2 := HW2.out.lu; have l21 : U < w2.heap.size + 1 := Nat.lt_succ_of_lt l2; have HI2 : Hid (Own w w2 (w.heap.size) (insO 25 D S O imm)) := Own.call (by (repeat (first | with_reducible exact HI1.out | with_reducible refine Own.drew ?_ | (with_reducible refine Own.last ?_ ?_; (focus (simp; done)); (focus omega)) | with_reducible refine Own.alloc ?_ _ | with_reducible refine Own.old ?_ u0 _ _ | with_reducible refine Own.other ?_ (by omega) _ _))) hB1; obtain ⟨Ia2, Ib2, Ic2, Id2, Ie2⟩ := HI2.out.ins; have Il2 := HI2.out.lt; have HP2 : Hid (Own w w2 (w.heap.size + 1) (stopB 0 0)) := Own.call (by (repeat (first | with_reducible exact HP1.out | with_reducible refine Own.drew ?_ | (with_reducible refine Own.last ?_ ?_; (focus (simp; done)); (focus omega)) | with_reducible refine Own.alloc ?_ _ | with_reducible refine Own.old ?_ u0 _ _ | with_reducible refine Own.other ?_ (by omega) _ _))) hB1; obtain ⟨Pa2, Pb2, Pc2, Pd2⟩ := HP2.out.stop; have Pl2 := HP2.out.lt; have Il21 := Nat.lt_succ_of_lt Il2; have Pl21 := Nat.lt_succ_of_lt Pl2; clear hB1))
  all_goals exact bodyPost_ret (v := (.agg #[.int .i64 5, .int .u32 x])) (by simp [results, Try.results136, go_sem, stK, stA, u0, u1, u2, u3, u4, Pa2, Pb2, Pc2, Pd2, l2, l21, Pl2, Pl21]) rfl ⟨rfl, by
    have hB := HW2.out
    (repeat (first | with_reducible exact hB | with_reducible refine TuW.drew ?_ | with_reducible refine TuW.new ?_ (by omega) _ _ | with_reducible refine TuW.alloc ?_ _))⟩
set_option maxHeartbeats 1000000 in
theorem swap26b (U X : Nat) (m : MS) (t : GS) (D S : Nat) (O : Int) (imm : Nat) (w : World) (H : TuW w w U X m t) (ht : t.Ok) (hi : imm < 4294967296) (hS : S < 8) (hD : D < 8) (hm : m.Ok) (x : Nat) (hbad : badN m 1 (w32 ((t.R S : Int) + imm)) 4 = some x) :
    Calls Try.prog 136 #[.pointer (some ⟨U, 0, none⟩), insA 26 D S O imm] w fun e w' => e = .returned (.agg #[.int .i64 5, .int .u32 x]) ∧ TuW w w' U X m t := by
  have HH : Hid _ := H
  have HT : Hid _ := ht
  have u0 := H.hU
  have u1 : U < w.heap.size + 1 := by omega
  have u2 : U < w.heap.size + 1 + 1 := by omega
  have u3 : U < w.heap.size + 1 + 1 + 1 := by omega
  have u4 : U < w.heap.size + 1 + 1 + 1 + 1 := by omega
  have rS := tu_reg H.bU S hS
  have rD := tu_reg H.bU D hD
  have fD := tu_fr H.bU (1 + D)
  have r0 := tu_reg H.bU 0 (by omega)
  have f0 := tu_fr H.bU 1
  have cF := tu_f H.bU
  have fF := tu_fr H.bU 10
  have cM := tu_m H.bU
  have hSi : (S : Int) < 8 := by omega
  have hRS := ht.r S
  have hDi : (D : Int) < 8 := by omega
  have hRD := ht.r D
  have hR0 := ht.r 0
  have hp := ht.p
  have hf := ht.f
  have HM : Hid _ := hm
  have HA : Hid _ := w32_lt ((t.R S : Int) + imm)
  have hvl := ldN_lt hm (w32 ((t.R S : Int) + imm)) 4
  have HBad : Hid _ := hbad
  clear hm hbad
  clear H ht
  go_enter Try.func136, Try.ntmps136
  go_wp2_with (first | (go_at_call 163; refine (at_any U X t 26 D S O imm _ ?_ hS HT.out hi).mono ?_; (focus (exact (show TuW w _ U X m t from (by have hB := HH.out; (repeat (first | with_reducible exact hB | with_reducible refine TuW.drew ?_ | with_reducible refine TuW.new ?_ (by omega) _ _ | with_reducible refine TuW.alloc ?_ _)))).bU)); rintro e w1 ⟨rfl, hB1⟩; have HW1 : Hid (TuW w w1 U X m t) := TuW.call (by have hB := HH.out; (repeat (first | with_reducible exact hB | with_reducible refine TuW.drew ?_ | with_reducible refine TuW.new ?_ (by omega) _ _ | with_reducible refine TuW.alloc ?_ _))) hB1; have cM1 := tu_m HW1.out.bU; have l1 := HW1.out.lu; have HI1 : Hid (Own w w1 (w.heap.size) (insO 26 D S O imm)) := Own.call (by (repeat (first | with_reducible refine Own.drew ?_ | (with_reducible refine Own.last ?_ ?_; (focus (simp; done)); (focus omega)) | with_reducible refine Own.alloc ?_ _ | with_reducible refine Own.old ?_ u0 _ _ | with_reducible refine Own.other ?_ (by omega) _ _))) hB1; obtain ⟨Ia1, Ib1, Ic1, Id1, Ie1⟩ := HI1.out.ins; have Il1 := HI1.out.lt; have HP1 : Hid (Own w w1 (w.heap.size + 1) (stopB 0 0)) := Own.call (by (repeat (first | with_reducible refine Own.drew ?_ | (with_reducible refine Own.last ?_ ?_; (focus (simp; done)); (focus omega)) | with_reducible refine Own.alloc ?_ _ | with_reducible refine Own.old ?_ u0 _ _ | with_reducible refine Own.other ?_ (by omega) _ _))) hB1; obtain ⟨Pa1, Pb1, Pc1, Pd1⟩ := HP1.out.stop; have Pl1 := HP1.out.lt; clear hB1) | (go_at_call 73; refine (pload_bad X (w32 ((t.R S : Int) + imm)) x m _ HBad.out HA.out HM.out ?_).mono ?_; (focus (exact (show TuW w _ U X m t from (by have hB := HW1.out; (repeat (first | with_reducible exact hB | with_reducible refine TuW.drew ?_ | with_reducible refine TuW.new ?_ (by omega) _ _ | with_reducible refine TuW.alloc ?_ _)))).pm)); rintro e w2 ⟨rfl, hB1⟩; have HW2 : Hid (TuW w w2 U X m t) := TuW.call (by have hB := HW1.out; (repeat (first | with_reducible exact hB | with_reducible refine TuW.drew ?_ | with_reducible refine TuW.new ?_ (by omega) _ _ | with_reducible refine TuW.alloc ?_ _))) hB1; have rD2 := tu_reg HW2.out.bU D hD; have fD2 := tu_fr HW2.out.bU (1 + D); have r02 := tu_reg HW2.out.bU 0 (by omega); have f02 := tu_fr HW2.out.bU 1; have cF2 := tu_f HW2.out.bU; have fF2 := tu_fr HW2.out.bU 10; have cM2 := tu_m HW2.out.bU; have l2 := HW2.out.lu; have l21 : U < w2.heap.size + 1 := Nat.lt_succ_of_lt l2; have HI2 : Hid (Own w w2 (w.heap.size) (insO 26 D S O imm)) := Own.call (by (repeat (first | with_reducible exact HI1.out | with_reducible refine Own.drew ?_ | (with_reducible refine Own.last ?_ ?_; (focus (simp; done)); (focus omega)) | with_reducible refine Own.alloc ?_ _ | with_reducible refine Own.old ?_ u0 _ _ | with_reducible refine Own.other ?_ (by omega) _ _))) hB1; obtain ⟨Ia2, Ib2, Ic2, Id2, Ie2⟩ := HI2.out.ins; have Il2 := HI2.out.lt; have HP2 : Hid (Own w w2 (w.heap.size + 1) (stopB 0 0)) := Own.call (by (repeat (first | with_reducible exact HP1.out | with_reducible refine Own.drew ?_ | (with_reducible refine Own.last ?_ ?_; (focus (simp; done)); (focus omega)) | with_reducible refine Own.alloc ?_ _ | with_reducible refine Own.old ?_ u0 _ _ | with_reducible refine Own.other ?_ (by omega) _ _))) hB1; obtain ⟨Pa2, Pb2, Pc2, Pd2⟩ := HP2.out.stop; have Pl2 := HP2.out.lt; have Il21 := Nat.lt_succ_of_lt Il2; have Pl21 := Nat.lt_succ_of_lt Pl2; clear hB1))
  all_goals exact bodyPost_ret (v := (.agg #[.int .i64 5, .int .u32 x])) (by simp [results, Try.results136, go_sem, stK, stA, u0, u1, u2, u3, u4, Pa2, Pb2, Pc2, Pd2, l2, l21, Pl2, Pl21]) rfl ⟨rfl, by
    have hB := HW2.out
    (repeat (first | with_reducible exact hB | with_reducible refine TuW.drew ?_ | with_reducible refine TuW.new ?_ (by omega) _ _ | with_reducible refine TuW.alloc ?_ _))⟩
set_option maxHeartbeats 1000000 in
theorem swap24 (U X : Nat) (m : MS) (t : GS) (D S : Nat) (O : Int) (imm : Nat) (w : World) (H : TuW w w U X m t) (ht : t.Ok) (hi : imm < 4294967296) (hS : S < 8) (hD : D < 8) (hm : m.Ok) (hbad : badN m 1 (w32 ((t.R S : Int) + imm)) 4 = none) :
    Calls Try.prog 136 #[.pointer (some ⟨U, 0, none⟩), insA 24 D S O imm] w fun e w' => e = .returned (stVV 6 (sto m (w32 ((t.R S : Int) + imm)) 4)) ∧ TuW w w' U X (storeT m (w32 ((t.R S : Int) + imm)) 4 (t.R D)) (t.setR D (ldN m (w32 ((t.R S : Int) + imm)) 4)) := by
  have HH : Hid _ := H
  have HT : Hid _ := ht
  have u0 := H.hU
  have u1 : U < w.heap.size + 1 := by omega
  have u2 : U < w.heap.size + 1 + 1 := by omega
  have u3 : U < w.heap.size + 1 + 1 + 1 := by omega
  have u4 : U < w.heap.size + 1 + 1 + 1 + 1 := by omega
  have rS := tu_reg H.bU S hS
  have rD := tu_reg H.bU D hD
  have fD := tu_fr H.bU (1 + D)
  have cF := tu_f H.bU
  have fF := tu_fr H.bU 10
  have cM := tu_m H.bU
  have hSi : (S : Int) < 8 := by omega
  have hRS := ht.r S
  have hDi : (D : Int) < 8 := by omega
  have hRD := ht.r D
  have hp := ht.p
  have hf := ht.f
  have HM : Hid _ := hm
  have HA : Hid _ := w32_lt ((t.R S : Int) + imm)
  have hvl := ldN_lt hm (w32 ((t.R S : Int) + imm)) 4
  have HBad : Hid _ := hbad
  clear hm hbad
  clear H ht
  go_enter Try.func136, Try.ntmps136
  go_wp2_with (first | (go_at_call 163; refine (at_any U X t 24 D S O imm _ ?_ hS HT.out hi).mono ?_; (focus (exact (show TuW w _ U X m t from (by have hB := HH.out; (repeat (first | with_reducible exact hB | with_reducible refine TuW.drew ?_ | with_reducible refine TuW.new ?_ (by omega) _ _ | with_reducible refine TuW.alloc ?_ _)))).bU)); rintro e w1 ⟨rfl, hB1⟩; have HW1 : Hid (TuW w w1 U X m t) := TuW.call (by have hB := HH.out; (repeat (first | with_reducible exact hB | with_reducible refine TuW.drew ?_ | with_reducible refine TuW.new ?_ (by omega) _ _ | with_reducible refine TuW.alloc ?_ _))) hB1; have cM1 := tu_m HW1.out.bU; have l1 := HW1.out.lu; have HI1 : Hid (Own w w1 (w.heap.size) (insO 24 D S O imm)) := Own.call (by (repeat (first | with_reducible refine Own.drew ?_ | (with_reducible refine Own.last ?_ ?_; (focus (simp; done)); (focus omega)) | with_reducible refine Own.alloc ?_ _ | with_reducible refine Own.old ?_ u0 _ _ | with_reducible refine Own.other ?_ (by omega) _ _))) hB1; obtain ⟨Ia1, Ib1, Ic1, Id1, Ie1⟩ := HI1.out.ins; have Il1 := HI1.out.lt; have HP1 : Hid (Own w w1 (w.heap.size + 1) (stopB 0 0)) := Own.call (by (repeat (first | with_reducible refine Own.drew ?_ | (with_reducible refine Own.last ?_ ?_; (focus (simp; done)); (focus omega)) | with_reducible refine Own.alloc ?_ _ | with_reducible refine Own.old ?_ u0 _ _ | with_reducible refine Own.other ?_ (by omega) _ _))) hB1; obtain ⟨Pa1, Pb1, Pc1, Pd1⟩ := HP1.out.stop; have Pl1 := HP1.out.lt; clear hB1) | (go_at_call 73; refine (pload_ok X (w32 ((t.R S : Int) + imm)) m _ HBad.out HA.out HM.out ?_).mono ?_; (focus (exact (show TuW w _ U X m t from (by have hB := HW1.out; (repeat (first | with_reducible exact hB | with_reducible refine TuW.drew ?_ | with_reducible refine TuW.new ?_ (by omega) _ _ | with_reducible refine TuW.alloc ?_ _)))).pm)); rintro e w2 ⟨rfl, hB1⟩; have HW2 : Hid (TuW w w2 U X m t) := TuW.call (by have hB := HW1.out; (repeat (first | with_reducible exact hB | with_reducible refine TuW.drew ?_ | with_reducible refine TuW.new ?_ (by omega) _ _ | with_reducible refine TuW.alloc ?_ _))) hB1; have rD2 := tu_reg HW2.out.bU D hD; have fD2 := tu_fr HW2.out.bU (1 + D); have cF2 := tu_f HW2.out.bU; have fF2 := tu_fr HW2.out.bU 10; have cM2 := tu_m HW2.out.bU; have l2 := HW2.out.lu; have l21 : U < w2.heap.size + 1 := Nat.lt_succ_of_lt l2; have HI2 : Hid (Own w w2 (w.heap.size) (insO 24 D S O imm)) := Own.call (by (repeat (first | with_reducible exact HI1.out | with_reducible refine Own.drew ?_ | (with_reducible refine Own.last ?_ ?_; (focus (simp; done)); (focus omega)) | with_reducible refine Own.alloc ?_ _ | with_reducible refine Own.old ?_ u0 _ _ | with_reducible refine Own.other ?_ (by omega) _ _))) hB1; obtain ⟨Ia2, Ib2, Ic2, Id2, Ie2⟩ := HI2.out.ins; have Il2 := HI2.out.lt; have HP2 : Hid (Own w w2 (w.heap.size + 1) (stopB 0 0)) := Own.call (by (repeat (first | with_reducible exact HP1.out | with_reducible refine Own.drew ?_ | (with_reducible refine Own.last ?_ ?_; (focus (simp; done)); (focus omega)) | with_reducible refine Own.alloc ?_ _ | with_reducible refine Own.old ?_ u0 _ _ | with_reducible refine Own.other ?_ (by omega) _ _))) hB1; obtain ⟨Pa2, Pb2, Pc2, Pd2⟩ := HP2.out.stop; have Pl2 := HP2.out.lt; have Il21 := Nat.lt_succ_of_lt Il2; have Pl21 := Nat.lt_succ_of_lt Pl2; clear hB1))
  all_goals go_region
  all_goals go_wp2
  all_goals go_region
  all_goals go_wp2_with (go_at_call 75; refine (store_tot X (w32 ((t.R S : Int) + imm)) (t.R D) 4 m _ HA.out hRD HM.out ?_).mono ?_; (focus (exact (show TuW w _ U X m (t.setR D (ldN m (w32 ((t.R S : Int) + imm)) 4)) from (by have hB := HW2.out; (repeat (first | with_reducible exact hB | with_reducible refine TuW.drew ?_ | with_reducible refine TuW.setRn ?_ _ hD _ | with_reducible refine TuW.new ?_ (by omega) _ _ | with_reducible refine TuW.alloc ?_ _)))).pm)); rintro e w4 ⟨rfl, hP1, hC1⟩; have HW4 : Hid (TuW w w4 U X (storeT m (w32 ((t.R S : Int) + imm)) 4 (t.R D)) (t.setR D (ldN m (w32 ((t.R S : Int) + imm)) 4))) := TuW.store (m := m) (by have hB := HW2.out; (repeat (first | with_reducible exact hB | with_reducible refine TuW.drew ?_ | with_reducible refine TuW.setRn ?_ _ hD _ | with_reducible refine TuW.new ?_ (by omega) _ _ | with_reducible refine TuW.alloc ?_ _))) hP1 hC1; have l4 := HW4.out.lu; have HP4 : Hid (Own w w4 (w.heap.size + 1) (stopB 0 0)) := Own.store (by (repeat (first | with_reducible exact HP2.out | with_reducible refine Own.drew ?_ | (with_reducible refine Own.last ?_ ?_; (focus (simp; done)); (focus omega)) | with_reducible refine Own.alloc ?_ _ | with_reducible refine Own.old ?_ u0 _ _ | with_reducible refine Own.other ?_ (by omega) _ _))) HH.out.hX hC1; obtain ⟨Pa4, Pb4, Pc4, Pd4⟩ := HP4.out.stop; have Pl4 := HP4.out.lt; clear hP1 hC1)
  all_goals exact bodyPost_ret (v := (stVV 6 (sto m (w32 ((t.R S : Int) + imm)) 4))) (by simp [results, Try.results136, go_sem, u0, u1, u2, u3, u4, Pa4, Pb4, Pc4, Pd4, l4, Pl4]) rfl ⟨rfl, by
    have hB := HW4.out
    (repeat (first | with_reducible exact hB | with_reducible refine TuW.drew ?_ | with_reducible refine TuW.new ?_ (by omega) _ _ | with_reducible refine TuW.alloc ?_ _))⟩
end Go.Proofs.Ytkgbjpdoigdjnaa

namespace Go.Proofs.Ytkgbjpdoigdjnaa
open Go.RowKit
set_option maxRecDepth 100000
set_option linter.unusedVariables false
set_option linter.unusedSimpArgs false

set_option maxHeartbeats 1000000 in
theorem swap25 (U X : Nat) (m : MS) (t : GS) (D S : Nat) (O : Int) (imm : Nat) (w : World) (H : TuW w w U X m t) (ht : t.Ok) (hi : imm < 4294967296) (hS : S < 8) (hD : D < 8) (hm : m.Ok) (hbad : badN m 1 (w32 ((t.R S : Int) + imm)) 4 = none) :
    Calls Try.prog 136 #[.pointer (some ⟨U, 0, none⟩), insA 25 D S O imm] w fun e w' => e = .returned (stVV 6 (sto m (w32 ((t.R S : Int) + imm)) 4)) ∧ TuW w w' U X (storeT m (w32 ((t.R S : Int) + imm)) 4 (wkX 1 (ldN m (w32 ((t.R S : Int) + imm)) 4) (t.R D) t.f).toNat) ((t.setF (Fl.flagsF 1 (ldN m (w32 ((t.R S : Int) + imm)) 4) (t.R D) t.f).toNat).setR D (ldN m (w32 ((t.R S : Int) + imm)) 4)) := by
  have HH : Hid _ := H
  have HT : Hid _ := ht
  have u0 := H.hU
  have u1 : U < w.heap.size + 1 := by omega
  have u2 : U < w.heap.size + 1 + 1 := by omega
  have u3 : U < w.heap.size + 1 + 1 + 1 := by omega
  have u4 : U < w.heap.size + 1 + 1 + 1 + 1 := by omega
  have rS := tu_reg H.bU S hS
  have rD := tu_reg H.bU D hD
  have fD := tu_fr H.bU (1 + D)
  have cF := tu_f H.bU
  have fF := tu_fr H.bU 10
  have cM := tu_m H.bU
  have hSi : (S : Int) < 8 := by omega
  have hRS := ht.r S
  have hDi : (D : Int) < 8 := by omega
  have hRD := ht.r D
  have hp := ht.p
  have hf := ht.f
  have HM : Hid _ := hm
  have HA : Hid _ := w32_lt ((t.R S : Int) + imm)
  have hvl := ldN_lt hm (w32 ((t.R S : Int) + imm)) 4
  have HBad : Hid _ := hbad
  clear hm hbad
  obtain ⟨vv, hvv⟩ : ∃ vv : Nat, wkX 1 (ldN m (w32 ((t.R S : Int) + imm)) 4) (t.R D) t.f = vv := ⟨w32 (((ldN m (w32 ((t.R S : Int) + imm)) 4) : Int) + t.R D), by rw [w32_cast]; simp [wkX]⟩
  obtain ⟨g, hg⟩ : ∃ g : Nat, Fl.flagsF 1 (ldN m (w32 ((t.R S : Int) + imm)) 4) (t.R D) t.f = g := ⟨(Fl.flagsF 1 (ldN m (w32 ((t.R S : Int) + imm)) 4) (t.R D) t.f).toNat, by have := (flagsF_bd 1 (ldN m (w32 ((t.R S : Int) + imm)) 4) (t.R D) t.f).1; omega⟩
  have hvvl : vv < 4294967296 := by
    have : wkX 1 (ldN m (w32 ((t.R S : Int) + imm)) 4) (t.R D) t.f = (((ldN m (w32 ((t.R S : Int) + imm)) 4) : Int) + t.R D) % 4294967296 := by simp [wkX]
    omega
  have HVV : Hid _ := hvv
  have HG : Hid _ := hg
  clear hvv hg
  clear H ht
  go_enter Try.func136, Try.ntmps136
  go_wp2_with (first | (go_at_call 163; refine (at_any U X t 25 D S O imm _ ?_ hS HT.out hi).mono ?_; (focus (exact (show TuW w _ U X m t from (by have hB := HH.out; (repeat (first | with_reducible exact hB | with_reducible refine TuW.drew ?_ | with_reducible refine TuW.new ?_ (by omega) _ _ | with_reducible refine TuW.alloc ?_ _)))).bU)); rintro e w1 ⟨rfl, hB1⟩; have HW1 : Hid (TuW w w1 U X m t) := TuW.call (by have hB := HH.out; (repeat (first | with_reducible exact hB | with_reducible refine TuW.drew ?_ | with_reducible refine TuW.new ?_ (by omega) _ _ | with_reducible refine TuW.alloc ?_ _))) hB1; have cM1 := tu_m HW1.out.bU; have l1 := HW1.out.lu; have HI1 : Hid (Own w w1 (w.heap.size) (insO 25 D S O imm)) := Own.call (by (repeat (first | with_reducible refine Own.drew ?_ | (with_reducible refine Own.last ?_ ?_; (focus (simp; done)); (focus omega)) | with_reducible refine Own.alloc ?_ _ | with_reducible refine Own.old ?_ u0 _ _ | with_reducible refine Own.other ?_ (by omega) _ _))) hB1; obtain ⟨Ia1, Ib1, Ic1, Id1, Ie1⟩ := HI1.out.ins; have Il1 := HI1.out.lt; have HP1 : Hid (Own w w1 (w.heap.size + 1) (stopB 0 0)) := Own.call (by (repeat (first | with_reducible refine Own.drew ?_ | (with_reducible refine Own.last ?_ ?_; (focus (simp; done)); (focus omega)) | with_reducible refine Own.alloc ?_ _ | with_reducible refine Own.old ?_ u0 _ _ | with_reducible refine Own.other ?_ (by omega) _ _))) hB1; obtain ⟨Pa1, Pb1, Pc1, Pd1⟩ := HP1.out.stop; have Pl1 := HP1.out.lt; clear hB1) | (go_at_call 73; refine (pload_ok X (w32 ((t.R S : Int) + imm)) m _ HBad.out HA.out HM.out ?_).mono ?_; (focus (exact (show TuW w _ U X m t from (by have hB := HW1.out; (repeat (first | with_reducible exact hB | with_reducible refine TuW.drew ?_ | with_reducible refine TuW.new ?_ (by omega) _ _ | with_reducible refine TuW.alloc ?_ _)))).pm)); rintro e w2 ⟨rfl, hB1⟩; have HW2 : Hid (TuW w w2 U X m t) := TuW.call (by have hB := HW1.out; (repeat (first | with_reducible exact hB | with_reducible refine TuW.drew ?_ | with_reducible refine TuW.new ?_ (by omega) _ _ | with_reducible refine TuW.alloc ?_ _))) hB1; have rD2 := tu_reg HW2.out.bU D hD; have fD2 := tu_fr HW2.out.bU (1 + D); have cF2 := tu_f HW2.out.bU; have fF2 := tu_fr HW2.out.bU 10; have cM2 := tu_m HW2.out.bU; have l2 := HW2.out.lu; have l21 : U < w2.heap.size + 1 := Nat.lt_succ_of_lt l2; have HI2 : Hid (Own w w2 (w.heap.size) (insO 25 D S O imm)) := Own.call (by (repeat (first | with_reducible exact HI1.out | with_reducible refine Own.drew ?_ | (with_reducible refine Own.last ?_ ?_; (focus (simp; done)); (focus omega)) | with_reducible refine Own.alloc ?_ _ | with_reducible refine Own.old ?_ u0 _ _ | with_reducible refine Own.other ?_ (by omega) _ _))) hB1; obtain ⟨Ia2, Ib2, Ic2, Id2, Ie2⟩ := HI2.out.ins; have Il2 := HI2.out.lt; have HP2 : Hid (Own w w2 (w.heap.size + 1) (stopB 0 0)) := Own.call (by (repeat (first | with_reducible exact HP1.out | with_reducible refine Own.drew ?_ | (with_reducible refine Own.last ?_ ?_; (focus (simp; done)); (focus omega)) | with_reducible refine Own.alloc ?_ _ | with_reducible refine Own.old ?_ u0 _ _ | with_reducible refine Own.other ?_ (by omega) _ _))) hB1; obtain ⟨Pa2, Pb2, Pc2, Pd2⟩ := HP2.out.stop; have Pl2 := HP2.out.lt; have Il21 := Nat.lt_succ_of_lt Il2; have Pl21 := Nat.lt_succ_of_lt Pl2; clear hB1))
  all_goals go_region
  all_goals go_wp2_with (go_at_call 84; refine (work_me 1 (ldN m (w32 ((t.R S : Int) + imm)) 4) (t.R D) t.f vv g _ HVV.out HG.out hvl hRD hf).mono ?_; rintro e w3 ⟨rfl, hB1⟩; have HW3 : Hid (TuW w w3 U X m t) := TuW.call (by have hB := HW2.out; (repeat (first | with_reducible exact hB | with_reducible refine TuW.drew ?_ | with_reducible refine TuW.new ?_ (by omega) _ _ | with_reducible refine TuW.alloc ?_ _))) hB1; have rD3 := tu_reg HW3.out.bU D hD; have fD3 := tu_fr HW3.out.bU (1 + D); have cF3 := tu_f HW3.out.bU; have fF3 := tu_fr HW3.out.bU 10; have cM3 := tu_m HW3.out.bU; have l3 := HW3.out.lu; have HI3 : Hid (Own w w3 (w.heap.size) (insO 25 D S O imm)) := Own.call (by (repeat (first | with_reducible exact HI2.out | with_reducible refine Own.drew ?_ | (with_reducible refine Own.last ?_ ?_; (focus (simp; done)); (focus omega)) | with_reducible refine Own.alloc ?_ _ | with_reducible refine Own.old ?_ u0 _ _ | with_reducible refine Own.other ?_ (by omega) _ _))) hB1; obtain ⟨Ia3, Ib3, Ic3, Id3, Ie3⟩ := HI3.out.ins; have Il3 := HI3.out.lt; have HP3 : Hid (Own w w3 (w.heap.size + 1) (stopB 0 0)) := Own.call (by (repeat (first | with_reducible exact HP2.out | with_reducible refine Own.drew ?_ | (with_reducible refine Own.last ?_ ?_; (focus (simp; done)); (focus omega)) | with_reducible refine Own.alloc ?_ _ | with_reducible refine Own.old ?_ u0 _ _ | with_reducible refine Own.other ?_ (by omega) _ _))) hB1; obtain ⟨Pa3, Pb3, Pc3, Pd3⟩ := HP3.out.stop; have Pl3 := HP3.out.lt; clear hB1)
  all_goals go_region
  all_goals go_wp2_with (go_at_call 75; refine (store_tot X (w32 ((t.R S : Int) + imm)) vv 4 m _ HA.out hvvl HM.out ?_).mono ?_; (focus (exact (show TuW w _ U X m ((t.setF g).setR D (ldN m (w32 ((t.R S : Int) + imm)) 4)) from (by have hB := HW3.out; (repeat (first | with_reducible exact hB | with_reducible refine TuW.drew ?_ | with_reducible refine TuW.setRn ?_ _ hD _ | with_reducible refine TuW.setFn ?_ _ | with_reducible refine TuW.new ?_ (by omega) _ _ | with_reducible refine TuW.alloc ?_ _)))).pm)); rintro e w4 ⟨rfl, hP1, hC1⟩; have HW4 : Hid (TuW w w4 U X (storeT m (w32 ((t.R S : Int) + imm)) 4 vv) ((t.setF g).setR D (ldN m (w32 ((t.R S : Int) + imm)) 4))) := TuW.store (m := m) (by have hB := HW3.out; (repeat (first | with_reducible exact hB | with_reducible refine TuW.drew ?_ | with_reducible refine TuW.setRn ?_ _ hD _ | with_reducible refine TuW.setFn ?_ _ | with_reducible refine TuW.new ?_ (by omega) _ _ | with_reducible refine TuW.alloc ?_ _))) hP1 hC1; have l4 := HW4.out.lu; have HP4 : Hid (Own w w4 (w.heap.size + 1) (stopB 0 0)) := Own.store (by (repeat (first | with_reducible exact HP3.out | with_reducible refine Own.drew ?_ | (with_reducible refine Own.last ?_ ?_; (focus (simp; done)); (focus omega)) | with_reducible refine Own.alloc ?_ _ | with_reducible refine Own.old ?_ u0 _ _ | with_reducible refine Own.other ?_ (by omega) _ _))) HH.out.hX hC1; obtain ⟨Pa4, Pb4, Pc4, Pd4⟩ := HP4.out.stop; have Pl4 := HP4.out.lt; clear hP1 hC1)
  all_goals exact bodyPost_ret (v := (stVV 6 (sto m (w32 ((t.R S : Int) + imm)) 4))) (by simp [results, Try.results136, go_sem, u0, u1, u2, u3, u4, Pa4, Pb4, Pc4, Pd4, l4, Pl4]) rfl ⟨rfl, by
    rw [HVV.out, HG.out]
    show TuW w _ U X (storeT m _ 4 vv) ((t.setF g).setR D _)
    have hB := HW4.out
    (repeat (first | with_reducible exact hB | with_reducible refine TuW.drew ?_ | with_reducible refine TuW.new ?_ (by omega) _ _ | with_reducible refine TuW.alloc ?_ _))⟩
end Go.Proofs.Ytkgbjpdoigdjnaa

namespace Go.Proofs.Ytkgbjpdoigdjnaa
open Go.RowKit
set_option maxRecDepth 100000
set_option linter.unusedVariables false
set_option linter.unusedSimpArgs false

set_option maxHeartbeats 1000000 in
theorem swap26e (U X : Nat) (m : MS) (t : GS) (D S : Nat) (O : Int) (imm : Nat) (w : World) (H : TuW w w U X m t) (ht : t.Ok) (hi : imm < 4294967296) (hS : S < 8) (hD : D < 8) (hm : m.Ok) (hbad : badN m 1 (w32 ((t.R S : Int) + imm)) 4 = none) (heq : (ldN m (w32 ((t.R S : Int) + imm)) 4) = t.R 0) :
    Calls Try.prog 136 #[.pointer (some ⟨U, 0, none⟩), insA 26 D S O imm] w fun e w' => e = .returned (stVV 6 (sto m (w32 ((t.R S : Int) + imm)) 4)) ∧ TuW w w' U X (storeT m (w32 ((t.R S : Int) + imm)) 4 (t.R D)) (t.setF (Fl.flagsF 3 (t.R 0) (ldN m (w32 ((t.R S : Int) + imm)) 4) t.f).toNat) := by
  have HH : Hid _ := H
  have HT : Hid _ := ht
  have u0 := H.hU
  have u1 : U < w.heap.size + 1 := by omega
  have u2 : U < w.heap.size + 1 + 1 := by omega
  have u3 : U < w.heap.size + 1 + 1 + 1 := by omega
  have u4 : U < w.heap.size + 1 + 1 + 1 + 1 := by omega
  have rS := tu_reg H.bU S hS
  have rD := tu_reg H.bU D hD
  have fD := tu_fr H.bU (1 + D)
  have r0 := tu_reg H.bU 0 (by omega)
  have f0 := tu_fr H.bU 1
  have cF := tu_f H.bU
  have fF := tu_fr H.bU 10
  have cM := tu_m H.bU
  have hSi : (S : Int) < 8 := by omega
  have hRS := ht.r S
  have hDi : (D : Int) < 8 := by omega
  have hRD := ht.r D
  have hR0 := ht.r 0
  have hp := ht.p
  have hf := ht.f
  have HM : Hid _ := hm
  have HA : Hid _ := w32_lt ((t.R S : Int) + imm)
  have hvl := ldN_lt hm (w32 ((t.R S : Int) + imm)) 4
  have HBad : Hid _ := hbad
  clear hm hbad
  obtain ⟨g, hg⟩ : ∃ g : Nat, Fl.flagsF 3 (t.R 0) (ldN m (w32 ((t.R S : Int) + imm)) 4) t.f = g := ⟨(Fl.flagsF 3 (t.R 0) (ldN m (w32 ((t.R S : Int) + imm)) 4) t.f).toNat, by have := (flagsF_bd 3 (t.R 0) (ldN m (w32 ((t.R S : Int) + imm)) 4) t.f).1; omega⟩
  have HG : Hid _ := hg
  clear hg
  have hne : ((((ldN m (w32 ((t.R S : Int) + imm)) 4) : Nat) : Int) != (t.R 0 : Int)) = false := by rw [heq]; simp
  have HEQ : Hid _ := heq
  clear heq
  clear H ht
  go_enter Try.func136, Try.ntmps136
  go_wp2_with (first | (go_at_call 163; refine (at_any U X t 26 D S O imm _ ?_ hS HT.out hi).mono ?_; (focus (exact (show TuW w _ U X m t from (by have hB := HH.out; (repeat (first | with_reducible exact hB | with_reducible refine TuW.drew ?_ | with_reducible refine TuW.new ?_ (by omega) _ _ | with_reducible refine TuW.alloc ?_ _)))).bU)); rintro e w1 ⟨rfl, hB1⟩; have HW1 : Hid (TuW w w1 U X m t) := TuW.call (by have hB := HH.out; (repeat (first | with_reducible exact hB | with_reducible refine TuW.drew ?_ | with_reducible refine TuW.new ?_ (by omega) _ _ | with_reducible refine TuW.alloc ?_ _))) hB1; have cM1 := tu_m HW1.out.bU; have l1 := HW1.out.lu; have HI1 : Hid (Own w w1 (w.heap.size) (insO 26 D S O imm)) := Own.call (by (repeat (first | with_reducible refine Own.drew ?_ | (with_reducible refine Own.last ?_ ?_; (focus (simp; done)); (focus omega)) | with_reducible refine Own.alloc ?_ _ | with_reducible refine Own.old ?_ u0 _ _ | with_reducible refine Own.other ?_ (by omega) _ _))) hB1; obtain ⟨Ia1, Ib1, Ic1, Id1, Ie1⟩ := HI1.out.ins; have Il1 := HI1.out.lt; have HP1 : Hid (Own w w1 (w.heap.size + 1) (stopB 0 0)) := Own.call (by (repeat (first | with_reducible refine Own.drew ?_ | (with_reducible refine Own.last ?_ ?_; (focus (simp; done)); (focus omega)) | with_reducible refine Own.alloc ?_ _ | with_reducible refine Own.old ?_ u0 _ _ | with_reducible refine Own.other ?_ (by omega) _ _))) hB1; obtain ⟨Pa1, Pb1, Pc1, Pd1⟩ := HP1.out.stop; have Pl1 := HP1.out.lt; clear hB1) | (go_at_call 73; refine (pload_ok X (w32 ((t.R S : Int) + imm)) m _ HBad.out HA.out HM.out ?_).mono ?_; (focus (exact (show TuW w _ U X m t from (by have hB := HW1.out; (repeat (first | with_reducible exact hB | with_reducible refine TuW.drew ?_ | with_reducible refine TuW.new ?_ (by omega) _ _ | with_reducible refine TuW.alloc ?_ _)))).pm)); rintro e w2 ⟨rfl, hB1⟩; have HW2 : Hid (TuW w w2 U X m t) := TuW.call (by have hB := HW1.out; (repeat (first | with_reducible exact hB | with_reducible refine TuW.drew ?_ | with_reducible refine TuW.new ?_ (by omega) _ _ | with_reducible refine TuW.alloc ?_ _))) hB1; have rD2 := tu_reg HW2.out.bU D hD; have fD2 := tu_fr HW2.out.bU (1 + D); have r02 := tu_reg HW2.out.bU 0 (by omega); have f02 := tu_fr HW2.out.bU 1; have cF2 := tu_f HW2.out.bU; have fF2 := tu_fr HW2.out.bU 10; have cM2 := tu_m HW2.out.bU; have l2 := HW2.out.lu; have l21 : U < w2.heap.size + 1 := Nat.lt_succ_of_lt l2; have HI2 : Hid (Own w w2 (w.heap.size) (insO 26 D S O imm)) := Own.call (by (repeat (first | with_reducible exact HI1.out | with_reducible refine Own.drew ?_ | (with_reducible refine Own.last ?_ ?_; (focus (simp; done)); (focus omega)) | with_reducible refine Own.alloc ?_ _ | with_reducible refine Own.old ?_ u0 _ _ | with_reducible refine Own.other ?_ (by omega) _ _))) hB1; obtain ⟨Ia2, Ib2, Ic2, Id2, Ie2⟩ := HI2.out.ins; have Il2 := HI2.out.lt; have HP2 : Hid (Own w w2 (w.heap.size + 1) (stopB 0 0)) := Own.call (by (repeat (first | with_reducible exact HP1.out | with_reducible refine Own.drew ?_ | (with_reducible refine Own.last ?_ ?_; (focus (simp; done)); (focus omega)) | with_reducible refine Own.alloc ?_ _ | with_reducible refine Own.old ?_ u0 _ _ | with_reducible refine Own.other ?_ (by omega) _ _))) hB1; obtain ⟨Pa2, Pb2, Pc2, Pd2⟩ := HP2.out.stop; have Pl2 := HP2.out.lt; have Il21 := Nat.lt_succ_of_lt Il2; have Pl21 := Nat.lt_succ_of_lt Pl2; clear hB1))
  all_goals go_region
  all_goals go_wp2
  all_goals go_region_with (go_at_call 31; refine (pflags_me 3 (t.R 0) (ldN m (w32 ((t.R S : Int) + imm)) 4) t.f g _ HG.out hR0 hvl hf).mono ?_; rintro e w3 ⟨rfl, hB1⟩; have HW3 : Hid (TuW w w3 U X m t) := TuW.call (by have hB := HW2.out; (repeat (first | with_reducible exact hB | with_reducible refine TuW.drew ?_ | with_reducible refine TuW.new ?_ (by omega) _ _ | with_reducible refine TuW.alloc ?_ _))) hB1; have r03 := tu_reg HW3.out.bU 0 (by omega); have f03 := tu_fr HW3.out.bU 1; have cF3 := tu_f HW3.out.bU; have fF3 := tu_fr HW3.out.bU 10; have cM3 := tu_m HW3.out.bU; have l3 := HW3.out.lu; have HI3 : Hid (Own w w3 (w.heap.size) (insO 26 D S O imm)) := Own.call (by (repeat (first | with_reducible exact HI2.out | with_reducible refine Own.drew ?_ | (with_reducible refine Own.last ?_ ?_; (focus (simp; done)); (focus omega)) | with_reducible refine Own.alloc ?_ _ | with_reducible refine Own.old ?_ u0 _ _ | with_reducible refine Own.other ?_ (by omega) _ _))) hB1; obtain ⟨Ia3, Ib3, Ic3, Id3, Ie3⟩ := HI3.out.ins; have Il3 := HI3.out.lt; have HP3 : Hid (Own w w3 (w.heap.size + 1) (stopB 0 0)) := Own.call (by (repeat (first | with_reducible exact HP2.out | with_reducible refine Own.drew ?_ | (with_reducible refine Own.last ?_ ?_; (focus (simp; done)); (focus omega)) | with_reducible refine Own.alloc ?_ _ | with_reducible refine Own.old ?_ u0 _ _ | with_reducible refine Own.other ?_ (by omega) _ _))) hB1; obtain ⟨Pa3, Pb3, Pc3, Pd3⟩ := HP3.out.stop; have Pl3 := HP3.out.lt; clear hB1)
  all_goals go_wp2_with (go_at_call 75; refine (store_tot X (w32 ((t.R S : Int) + imm)) (t.R D) 4 m _ HA.out hRD HM.out ?_).mono ?_; (focus (exact (show TuW w _ U X m (t.setF g) from (by have hB := HW3.out; (repeat (first | with_reducible exact hB | with_reducible refine TuW.drew ?_ | with_reducible refine TuW.setR0n ?_ _ | with_reducible refine TuW.setFn ?_ _ | with_reducible refine TuW.new ?_ (by omega) _ _ | with_reducible refine TuW.alloc ?_ _)))).pm)); rintro e w4 ⟨rfl, hP1, hC1⟩; have HW4 : Hid (TuW w w4 U X (storeT m (w32 ((t.R S : Int) + imm)) 4 (t.R D)) (t.setF g)) := TuW.store (m := m) (by have hB := HW3.out; (repeat (first | with_reducible exact hB | with_reducible refine TuW.drew ?_ | with_reducible refine TuW.setR0n ?_ _ | with_reducible refine TuW.setFn ?_ _ | with_reducible refine TuW.new ?_ (by omega) _ _ | with_reducible refine TuW.alloc ?_ _))) hP1 hC1; have l4 := HW4.out.lu; have HP4 : Hid (Own w w4 (w.heap.size + 1) (stopB 0 0)) := Own.store (by (repeat (first | with_reducible exact HP3.out | with_reducible refine Own.drew ?_ | (with_reducible refine Own.last ?_ ?_; (focus (simp; done)); (focus omega)) | with_reducible refine Own.alloc ?_ _ | with_reducible refine Own.old ?_ u0 _ _ | with_reducible refine Own.other ?_ (by omega) _ _))) HH.out.hX hC1; obtain ⟨Pa4, Pb4, Pc4, Pd4⟩ := HP4.out.stop; have Pl4 := HP4.out.lt; clear hP1 hC1)
  all_goals exact bodyPost_ret (v := (stVV 6 (sto m (w32 ((t.R S : Int) + imm)) 4))) (by simp [results, Try.results136, go_sem, u0, u1, u2, u3, u4, Pa4, Pb4, Pc4, Pd4, l4, Pl4]) rfl ⟨rfl, by
    rw [HG.out]
    show TuW w _ U X _ (t.setF g)
    have hB := HW4.out
    (repeat (first | with_reducible exact hB | with_reducible refine TuW.drew ?_ | with_reducible refine TuW.new ?_ (by omega) _ _ | with_reducible refine TuW.alloc ?_ _))⟩
set_option maxHeartbeats 1000000 in
theorem swap26n (U X : Nat) (m : MS) (t : GS) (D S : Nat) (O : Int) (imm : Nat) (w : World) (H : TuW w w U X m t) (ht : t.Ok) (hi : imm < 4294967296) (hS : S < 8) (hD : D < 8) (hm : m.Ok) (hbad : badN m 1 (w32 ((t.R S : Int) + imm)) 4 = none) (heq : ¬ (ldN m (w32 ((t.R S : Int) + imm)) 4) = t.R 0) :
    Calls Try.prog 136 #[.pointer (some ⟨U, 0, none⟩), insA 26 D S O imm] w fun e w' => e = .returned (stVV 6 (sto m (w32 ((t.R S : Int) + imm)) 4)) ∧ TuW w w' U X (storeT m (w32 ((t.R S : Int) + imm)) 4 (ldN m (w32 ((t.R S : Int) + imm)) 4)) ((t.setF (Fl.flagsF 3 (t.R 0) (ldN m (w32 ((t.R S : Int) + imm)) 4) t.f).toNat).setR 0 (ldN m (w32 ((t.R S : Int) + imm)) 4)) := by
  have HH : Hid _ := H
  have HT : Hid _ := ht
  have u0 := H.hU
  have u1 : U < w.heap.size + 1 := by omega
  have u2 : U < w.heap.size + 1 + 1 := by omega
  have u3 : U < w.heap.size + 1 + 1 + 1 := by omega
  have u4 : U < w.heap.size + 1 + 1 + 1 + 1 := by omega
  have rS := tu_reg H.bU S hS
  have rD := tu_reg H.bU D hD
  have fD := tu_fr H.bU (1 + D)
  have r0 := tu_reg H.bU 0 (by omega)
  have f0 := tu_fr H.bU 1
  have cF := tu_f H.bU
  have fF := tu_fr H.bU 10
  have cM := tu_m H.bU
  have hSi : (S : Int) < 8 := by omega
  have hRS := ht.r S
  have hDi : (D : Int) < 8 := by omega
  have hRD := ht.r D
  have hR0 := ht.r 0
  have hp := ht.p
  have hf := ht.f
  have HM : Hid _ := hm
  have HA : Hid _ := w32_lt ((t.R S : Int) + imm)
  have hvl := ldN_lt hm (w32 ((t.R S : Int) + imm)) 4
  have HBad : Hid _ := hbad
  clear hm hbad
  obtain ⟨g, hg⟩ : ∃ g : Nat, Fl.flagsF 3 (t.R 0) (ldN m (w32 ((t.R S : Int) + imm)) 4) t.f = g := ⟨(Fl.flagsF 3 (t.R 0) (ldN m (w32 ((t.R S : Int) + imm)) 4) t.f).toNat, by have := (flagsF_bd 3 (t.R 0) (ldN m (w32 ((t.R S : Int) + imm)) 4) t.f).1; omega⟩
  have HG : Hid _ := hg
  clear hg
  have hne : ((((ldN m (w32 ((t.R S : Int) + imm)) 4) : Nat) : Int) != (t.R 0 : Int)) = true := by simp; omega
  have HEQ : Hid _ := heq
  clear heq
  clear H ht
  go_enter Try.func136, Try.ntmps136
  go_wp2_with (first | (go_at_call 163; refine (at_any U X t 26 D S O imm _ ?_ hS HT.out hi).mono ?_; (focus (exact (show TuW w _ U X m t from (by have hB := HH.out; (repeat (first | with_reducible exact hB | with_reducible refine TuW.drew ?_ | with_reducible refine TuW.new ?_ (by omega) _ _ | with_reducible refine TuW.alloc ?_ _)))).bU)); rintro e w1 ⟨rfl, hB1⟩; have HW1 : Hid (TuW w w1 U X m t) := TuW.call (by have hB := HH.out; (repeat (first | with_reducible exact hB | with_reducible refine TuW.drew ?_ | with_reducible refine TuW.new ?_ (by omega) _ _ | with_reducible refine TuW.alloc ?_ _))) hB1; have cM1 := tu_m HW1.out.bU; have l1 := HW1.out.lu; have HI1 : Hid (Own w w1 (w.heap.size) (insO 26 D S O imm)) := Own.call (by (repeat (first | with_reducible refine Own.drew ?_ | (with_reducible refine Own.last ?_ ?_; (focus (simp; done)); (focus omega)) | with_reducible refine Own.alloc ?_ _ | with_reducible refine Own.old ?_ u0 _ _ | with_reducible refine Own.other ?_ (by omega) _ _))) hB1; obtain ⟨Ia1, Ib1, Ic1, Id1, Ie1⟩ := HI1.out.ins; have Il1 := HI1.out.lt; have HP1 : Hid (Own w w1 (w.heap.size + 1) (stopB 0 0)) := Own.call (by (repeat (first | with_reducible refine Own.drew ?_ | (with_reducible refine Own.last ?_ ?_; (focus (simp; done)); (focus omega)) | with_reducible refine Own.alloc ?_ _ | with_reducible refine Own.old ?_ u0 _ _ | with_reducible refine Own.other ?_ (by omega) _ _))) hB1; obtain ⟨Pa1, Pb1, Pc1, Pd1⟩ := HP1.out.stop; have Pl1 := HP1.out.lt; clear hB1) | (go_at_call 73; refine (pload_ok X (w32 ((t.R S : Int) + imm)) m _ HBad.out HA.out HM.out ?_).mono ?_; (focus (exact (show TuW w _ U X m t from (by have hB := HW1.out; (repeat (first | with_reducible exact hB | with_reducible refine TuW.drew ?_ | with_reducible refine TuW.new ?_ (by omega) _ _ | with_reducible refine TuW.alloc ?_ _)))).pm)); rintro e w2 ⟨rfl, hB1⟩; have HW2 : Hid (TuW w w2 U X m t) := TuW.call (by have hB := HW1.out; (repeat (first | with_reducible exact hB | with_reducible refine TuW.drew ?_ | with_reducible refine TuW.new ?_ (by omega) _ _ | with_reducible refine TuW.alloc ?_ _))) hB1; have rD2 := tu_reg HW2.out.bU D hD; have fD2 := tu_fr HW2.out.bU (1 + D); have r02 := tu_reg HW2.out.bU 0 (by omega); have f02 := tu_fr HW2.out.bU 1; have cF2 := tu_f HW2.out.bU; have fF2 := tu_fr HW2.out.bU 10; have cM2 := tu_m HW2.out.bU; have l2 := HW2.out.lu; have l21 : U < w2.heap.size + 1 := Nat.lt_succ_of_lt l2; have HI2 : Hid (Own w w2 (w.heap.size) (insO 26 D S O imm)) := Own.call (by (repeat (first | with_reducible exact HI1.out | with_reducible refine Own.drew ?_ | (with_reducible refine Own.last ?_ ?_; (focus (simp; done)); (focus omega)) | with_reducible refine Own.alloc ?_ _ | with_reducible refine Own.old ?_ u0 _ _ | with_reducible refine Own.other ?_ (by omega) _ _))) hB1; obtain ⟨Ia2, Ib2, Ic2, Id2, Ie2⟩ := HI2.out.ins; have Il2 := HI2.out.lt; have HP2 : Hid (Own w w2 (w.heap.size + 1) (stopB 0 0)) := Own.call (by (repeat (first | with_reducible exact HP1.out | with_reducible refine Own.drew ?_ | (with_reducible refine Own.last ?_ ?_; (focus (simp; done)); (focus omega)) | with_reducible refine Own.alloc ?_ _ | with_reducible refine Own.old ?_ u0 _ _ | with_reducible refine Own.other ?_ (by omega) _ _))) hB1; obtain ⟨Pa2, Pb2, Pc2, Pd2⟩ := HP2.out.stop; have Pl2 := HP2.out.lt; have Il21 := Nat.lt_succ_of_lt Il2; have Pl21 := Nat.lt_succ_of_lt Pl2; clear hB1))
  all_goals go_region
  all_goals go_wp2
  all_goals go_region_with (go_at_call 31; refine (pflags_me 3 (t.R 0) (ldN m (w32 ((t.R S : Int) + imm)) 4) t.f g _ HG.out hR0 hvl hf).mono ?_; rintro e w3 ⟨rfl, hB1⟩; have HW3 : Hid (TuW w w3 U X m t) := TuW.call (by have hB := HW2.out; (repeat (first | with_reducible exact hB | with_reducible refine TuW.drew ?_ | with_reducible refine TuW.new ?_ (by omega) _ _ | with_reducible refine TuW.alloc ?_ _))) hB1; have r03 := tu_reg HW3.out.bU 0 (by omega); have f03 := tu_fr HW3.out.bU 1; have cF3 := tu_f HW3.out.bU; have fF3 := tu_fr HW3.out.bU 10; have cM3 := tu_m HW3.out.bU; have l3 := HW3.out.lu; have HI3 : Hid (Own w w3 (w.heap.size) (insO 26 D S O imm)) := Own.call (by (repeat (first | with_reducible exact HI2.out | with_reducible refine Own.drew ?_ | (with_reducible refine Own.last ?_ ?_; (focus (simp; done)); (focus omega)) | with_reducible refine Own.alloc ?_ _ | with_reducible refine Own.old ?_ u0 _ _ | with_reducible refine Own.other ?_ (by omega) _ _))) hB1; obtain ⟨Ia3, Ib3, Ic3, Id3, Ie3⟩ := HI3.out.ins; have Il3 := HI3.out.lt; have HP3 : Hid (Own w w3 (w.heap.size + 1) (stopB 0 0)) := Own.call (by (repeat (first | with_reducible exact HP2.out | with_reducible refine Own.drew ?_ | (with_reducible refine Own.last ?_ ?_; (focus (simp; done)); (focus omega)) | with_reducible refine Own.alloc ?_ _ | with_reducible refine Own.old ?_ u0 _ _ | with_reducible refine Own.other ?_ (by omega) _ _))) hB1; obtain ⟨Pa3, Pb3, Pc3, Pd3⟩ := HP3.out.stop; have Pl3 := HP3.out.lt; clear hB1)
  all_goals go_wp2_with (go_at_call 75; refine (store_tot X (w32 ((t.R S : Int) + imm)) (ldN m (w32 ((t.R S : Int) + imm)) 4) 4 m _ HA.out hvl HM.out ?_).mono ?_; (focus (exact (show TuW w _ U X m ((t.setF g).setR 0 (ldN m (w32 ((t.R S : Int) + imm)) 4)) from (by have hB := HW3.out; (repeat (first | with_reducible exact hB | with_reducible refine TuW.drew ?_ | with_reducible refine TuW.setR0n ?_ _ | with_reducible refine TuW.setFn ?_ _ | with_reducible refine TuW.new ?_ (by omega) _ _ | with_reducible refine TuW.alloc ?_ _)))).pm)); rintro e w4 ⟨rfl, hP1, hC1⟩; have HW4 : Hid (TuW w w4 U X (storeT m (w32 ((t.R S : Int) + imm)) 4 (ldN m (w32 ((t.R S : Int) + imm)) 4)) ((t.setF g).setR 0 (ldN m (w32 ((t.R S : Int) + imm)) 4))) := TuW.store (m := m) (by have hB := HW3.out; (repeat (first | with_reducible exact hB | with_reducible refine TuW.drew ?_ | with_reducible refine TuW.setR0n ?_ _ | with_reducible refine TuW.setFn ?_ _ | with_reducible refine TuW.new ?_ (by omega) _ _ | with_reducible refine TuW.alloc ?_ _))) hP1 hC1; have l4 := HW4.out.lu; have HP4 : Hid (Own w w4 (w.heap.size + 1) (stopB 0 0)) := Own.store (by (repeat (first | with_reducible exact HP3.out | with_reducible refine Own.drew ?_ | (with_reducible refine Own.last ?_ ?_; (focus (simp; done)); (focus omega)) | with_reducible refine Own.alloc ?_ _ | with_reducible refine Own.old ?_ u0 _ _ | with_reducible refine Own.other ?_ (by omega) _ _))) HH.out.hX hC1; obtain ⟨Pa4, Pb4, Pc4, Pd4⟩ := HP4.out.stop; have Pl4 := HP4.out.lt; clear hP1 hC1)
  all_goals exact bodyPost_ret (v := (stVV 6 (sto m (w32 ((t.R S : Int) + imm)) 4))) (by simp [results, Try.results136, go_sem, u0, u1, u2, u3, u4, Pa4, Pb4, Pc4, Pd4, l4, Pl4]) rfl ⟨rfl, by
    rw [HG.out]
    show TuW w _ U X _ ((t.setF g).setR 0 _)
    have hB := HW4.out
    (repeat (first | with_reducible exact hB | with_reducible refine TuW.drew ?_ | with_reducible refine TuW.new ?_ (by omega) _ _ | with_reducible refine TuW.alloc ?_ _))⟩
end Go.Proofs.Ytkgbjpdoigdjnaa
