import Derived.Test.YtkgbjpdoigdjnaaJ38
import Derived.Test.YtkgbjpdoigdjnaaJ16
import Derived.Test.YtkgbjpdoigdjnaaJ37
import Derived.Test.YtkgbjpdoigdjnaaJ22
import Derived.Deep.RegionHeld3
namespace Go.Proofs.Ytkgbjpdoigdjnaa
open Go.RowKit
set_option maxRecDepth 100000
set_option linter.unusedVariables false
set_option linter.unusedSimpArgs false

theorem preck_me (o : Int) (a b f : Nat) (k : Bool) (w : World) (hk : Fl.recOk o b = k) (ha : a < 4294967296) (hb : b < 4294967296) (hf : f < 4294967296) :
    Calls Try.prog 29 #[.int .i64 o, .int .u32 a, .int .u32 b, .int .u32 f] w fun e w' => e = .returned (.tuple #[.int .u32 (Fl.recX o a b f), .int .u32 (Fl.recFl o a b f), .bool k]) ∧ Below w.heap.size w w' := hk ▸ preck_any o a b f w ha hb hf
set_option maxHeartbeats 1000000 in
theorem reckt_any (U X : Nat) (m : MS) (t : GS) (D S : Nat) (O : Int) (imm : Nat) (w : World) (H : TuW w w U X m t) (ht : t.Ok) (hi : imm < 4294967296) (hD : D < 8) (op : Int) (b : Nat) (hb : b < 4294967296) (hk : Fl.recOk O b = true) :
    Calls Try.prog 133 #[.pointer (some ⟨U, 0, none⟩), insA op D S O imm, .int .u32 b] w fun e w' => e = .returned stop0 ∧ TuW w w' U X m ((t.setR D (Fl.recX O (t.R D) b t.f).toNat).setF (Fl.recFl O (t.R D) b t.f).toNat) := by
  have HH : Hid _ := H
  have HT : Hid _ := ht
  have u0 := H.hU
  have u1 : U < w.heap.size + 1 := by omega
  have u2 : U < w.heap.size + 1 + 1 := by omega
  have u3 : U < w.heap.size + 1 + 1 + 1 := by omega
  have u4 : U < w.heap.size + 1 + 1 + 1 + 1 := by omega
  have rD := tu_reg H.bU D hD
  have fD := tu_fr H.bU (1 + D)
  have cF := tu_f H.bU
  have fF := tu_fr H.bU 10
  have hDi : (D : Int) < 8 := by omega
  have hRD := ht.r D
  have hp := ht.p
  have hf := ht.f
  have HB : Hid _ := hk
  clear hk
  have HX0 : Hid (0 ≤ Fl.recX O (t.R D) b t.f) := (recX_bd O (t.R D) b t.f (ht.r D) hb).1
  have HF0 : Hid (0 ≤ Fl.recFl O (t.R D) b t.f) := (recFl_bd ..).1
  clear H ht
  go_enter Try.func133, Try.ntmps133
  go_wp2
  go_region_held3 (fun w' => w'.cell? ⟨w.heap.size, 3, none⟩ = some (.int .i64 O) ∧ w'.cell? ⟨w.heap.size, 1, none⟩ = some (.int .i64 D) ∧ w'.cell? ⟨U, 1 + D, none⟩ = some (.int .u32 (t.R D)) ∧ w'.cell? ⟨U, 10, none⟩ = some (.int .u32 t.f)) (first | (simp [go_sem, rD, cF, u0, u1, u2]; done) | (simp [go_sem, Id1, Ib1, rD1, cF1]; done))
    (first | (go_at_call 29; refine (preck_me O (t.R D) b t.f true _ HB.out hRD hb hf).mono ?_; rintro e w1 ⟨rfl, hB1⟩; have HW1 : Hid (TuW w w1 U X m t) := TuW.call (by have hB := HH.out; (repeat (first | with_reducible exact hB | with_reducible refine TuW.drew ?_ | with_reducible refine TuW.new ?_ (by omega) _ _ | with_reducible refine TuW.alloc ?_ _))) hB1; have rD1 := tu_reg HW1.out.bU D hD; have fD1 := tu_fr HW1.out.bU (1 + D); have cF1 := tu_f HW1.out.bU; have fF1 := tu_fr HW1.out.bU 10; have l1 := HW1.out.lu; have HI1 : Hid (Own w w1 (w.heap.size) (insO op D S O imm)) := Own.call (by (repeat (first | with_reducible refine Own.drew ?_ | (with_reducible refine Own.last ?_ ?_; (focus (simp; done)); (focus omega)) | with_reducible refine Own.alloc ?_ _ | with_reducible refine Own.old ?_ u0 _ _ | with_reducible refine Own.other ?_ (by omega) _ _))) hB1; obtain ⟨Ia1, Ib1, Ic1, Id1, Ie1⟩ := HI1.out.ins; have Il1 := HI1.out.lt; have HP1 : Hid (Own w w1 (w.heap.size + 1) (stopB 0 0)) := Own.call (by (repeat (first | with_reducible refine Own.drew ?_ | (with_reducible refine Own.last ?_ ?_; (focus (simp; done)); (focus omega)) | with_reducible refine Own.alloc ?_ _ | with_reducible refine Own.old ?_ u0 _ _ | with_reducible refine Own.other ?_ (by omega) _ _))) hB1; obtain ⟨Pa1, Pb1, Pc1, Pd1⟩ := HP1.out.stop; have Pl1 := HP1.out.lt; clear hB1))
  all_goals go_wp2
  all_goals go_region
  all_goals go_wp2
  all_goals exact bodyPost_ret (v := stop0) (by simp [results, Try.results133, go_sem, u0, u1, u2, u3, u4, Pa1, Pb1, Pc1, Pd1, l1]) rfl ⟨rfl, by
    have hB := HW1.out
    (repeat (first | with_reducible exact hB | with_reducible refine TuW.drew ?_ | with_reducible refine TuW.setR ?_ _ hD _ HX0.out | with_reducible refine TuW.setF ?_ _ HF0.out | with_reducible refine TuW.new ?_ (by omega) _ _ | with_reducible refine TuW.alloc ?_ _))⟩
set_option maxHeartbeats 1000000 in
theorem reckf_any (U X : Nat) (m : MS) (t : GS) (D S : Nat) (O : Int) (imm : Nat) (w : World) (H : TuW w w U X m t) (ht : t.Ok) (hi : imm < 4294967296) (hD : D < 8) (op : Int) (b : Nat) (hb : b < 4294967296) (hk : Fl.recOk O b = false) :
    Calls Try.prog 133 #[.pointer (some ⟨U, 0, none⟩), insA op D S O imm, .int .u32 b] w fun e w' => e = .returned (.agg #[.int .i64 7, .int .u32 0]) ∧ TuW w w' U X m t := by
  have HH : Hid _ := H
  have HT : Hid _ := ht
  have u0 := H.hU
  have u1 : U < w.heap.size + 1 := by omega
  have u2 : U < w.heap.size + 1 + 1 := by omega
  have u3 : U < w.heap.size + 1 + 1 + 1 := by omega
  have u4 : U < w.heap.size + 1 + 1 + 1 + 1 := by omega
  have rD := tu_reg H.bU D hD
  have fD := tu_fr H.bU (1 + D)
  have cF := tu_f H.bU
  have fF := tu_fr H.bU 10
  have hDi : (D : Int) < 8 := by omega
  have hRD := ht.r D
  have hp := ht.p
  have hf := ht.f
  have HB : Hid _ := hk
  clear hk
  clear H ht
  go_enter Try.func133, Try.ntmps133
  go_wp2
  go_region_held3 (fun w' => w'.cell? ⟨w.heap.size, 3, none⟩ = some (.int .i64 O) ∧ w'.cell? ⟨w.heap.size, 1, none⟩ = some (.int .i64 D) ∧ w'.cell? ⟨U, 1 + D, none⟩ = some (.int .u32 (t.R D)) ∧ w'.cell? ⟨U, 10, none⟩ = some (.int .u32 t.f)) (first | (simp [go_sem, rD, cF, u0, u1, u2]; done) | (simp [go_sem, Id1, Ib1, rD1, cF1]; done))
    (first | (go_at_call 29; refine (preck_me O (t.R D) b t.f false _ HB.out hRD hb hf).mono ?_; rintro e w1 ⟨rfl, hB1⟩; have HW1 : Hid (TuW w w1 U X m t) := TuW.call (by have hB := HH.out; (repeat (first | with_reducible exact hB | with_reducible refine TuW.drew ?_ | with_reducible refine TuW.new ?_ (by omega) _ _ | with_reducible refine TuW.alloc ?_ _))) hB1; have rD1 := tu_reg HW1.out.bU D hD; have fD1 := tu_fr HW1.out.bU (1 + D); have cF1 := tu_f HW1.out.bU; have fF1 := tu_fr HW1.out.bU 10; have l1 := HW1.out.lu; have HI1 : Hid (Own w w1 (w.heap.size) (insO op D S O imm)) := Own.call (by (repeat (first | with_reducible refine Own.drew ?_ | (with_reducible refine Own.last ?_ ?_; (focus (simp; done)); (focus omega)) | with_reducible refine Own.alloc ?_ _ | with_reducible refine Own.old ?_ u0 _ _ | with_reducible refine Own.other ?_ (by omega) _ _))) hB1; obtain ⟨Ia1, Ib1, Ic1, Id1, Ie1⟩ := HI1.out.ins; have Il1 := HI1.out.lt; have HP1 : Hid (Own w w1 (w.heap.size + 1) (stopB 0 0)) := Own.call (by (repeat (first | with_reducible refine Own.drew ?_ | (with_reducible refine Own.last ?_ ?_; (focus (simp; done)); (focus omega)) | with_reducible refine Own.alloc ?_ _ | with_reducible refine Own.old ?_ u0 _ _ | with_reducible refine Own.other ?_ (by omega) _ _))) hB1; obtain ⟨Pa1, Pb1, Pc1, Pd1⟩ := HP1.out.stop; have Pl1 := HP1.out.lt; clear hB1))
  all_goals go_wp2
  all_goals exact bodyPost_ret (v := (.agg #[.int .i64 7, .int .u32 0])) (by simp [results, Try.results133, go_sem, u0, u1, u2, u3, u4, Pa1, Pb1, Pc1, Pd1, l1]) rfl ⟨rfl, by
    have hB := HW1.out
    (repeat (first | with_reducible exact hB | with_reducible refine TuW.drew ?_ | with_reducible refine TuW.new ?_ (by omega) _ _ | with_reducible refine TuW.alloc ?_ _))⟩
end Go.Proofs.Ytkgbjpdoigdjnaa
