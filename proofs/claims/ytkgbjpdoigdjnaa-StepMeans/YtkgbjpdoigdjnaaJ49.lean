import Derived.Test.YtkgbjpdoigdjnaaJ38
import Derived.Test.YtkgbjpdoigdjnaaJ16
import Derived.Test.YtkgbjpdoigdjnaaJ48
import Derived.Test.YtkgbjpdoigdjnaaJ43
import Derived.Test.YtkgbjpdoigdjnaaJ39
import Derived.Test.YtkgbjpdoigdjnaaJ44
import Derived.Test.YtkgbjpdoigdjnaaJ45
import Derived.Test.YtkgbjpdoigdjnaaJ46
namespace Go.Proofs.Ytkgbjpdoigdjnaa
open Go.RowKit
set_option maxRecDepth 100000
set_option linter.unusedVariables false
set_option linter.unusedSimpArgs false

set_option maxHeartbeats 1000000 in
theorem do27t (U X : Nat) (m : MS) (t : GS) (D S : Nat) (O : Int) (imm : Nat) (w : World) (H : TuW w w U X m t) (ht : t.Ok) (hi : imm < 4294967296) (hS : S < 8) (hD : D < 8) (hk : Fl.recOk O (t.R S) = true) :
    Calls Try.prog 96 #[.pointer (some ⟨U, 0, none⟩), insA 27 D S O imm] w fun e w' => e = .returned stop0 ∧ TuW w w' U X m ((t.setR D (Fl.recX O (t.R D) (t.R S) t.f).toNat).setF (Fl.recFl O (t.R D) (t.R S) t.f).toNat) := by
  have HH : Hid _ := H
  have HT : Hid _ := ht
  have u0 := H.hU
  have u1 : U < w.heap.size + 1 := by omega
  have u2 : U < w.heap.size + 1 + 1 := by omega
  have u3 : U < w.heap.size + 1 + 1 + 1 := by omega
  have u4 : U < w.heap.size + 1 + 1 + 1 + 1 := by omega
  have hp := ht.p
  have hf := ht.f
  have HB : Hid _ := hk
  clear hk
  have rS := tu_reg H.bU S hS
  have hSi : (S : Int) < 8 := by omega
  have hRS := ht.r S
  clear H ht
  go_enter Try.func96, Try.ntmps96
  go_wp2
  go_region_with (go_at_call 133; refine (reckt_any U X m t D S O imm _ ?_ HT.out hi hD 27 (t.R S) hRS HB.out).mono ?_; (focus (exact TuW.here (w := w) (by have hB := HH.out; (repeat (first | with_reducible exact hB | with_reducible refine TuW.drew ?_ | with_reducible refine TuW.new ?_ (by omega) _ _ | with_reducible refine TuW.alloc ?_ _))))); rintro e w1 ⟨rfl, hT1⟩; have HW1 : Hid (TuW w w1 U X m ((t.setR D (Fl.recX O (t.R D) (t.R S) t.f).toNat).setF (Fl.recFl O (t.R D) (t.R S) t.f).toNat)) := TuW.from (m := m) (t := t) (by have hB := HH.out; (repeat (first | with_reducible exact hB | with_reducible refine TuW.drew ?_ | with_reducible refine TuW.new ?_ (by omega) _ _ | with_reducible refine TuW.alloc ?_ _))) hT1; have HP1 : Hid (Own w w1 (w.heap.size + 1) (stopB 0 0)) := Own.turn (by (repeat (first | with_reducible refine Own.drew ?_ | (with_reducible refine Own.last ?_ ?_; (focus (simp; done)); (focus omega)) | with_reducible refine Own.alloc ?_ _ | with_reducible refine Own.old ?_ u0 _ _ | with_reducible refine Own.other ?_ (by omega) _ _))) HH.out.hX HH.out.hU hT1; obtain ⟨Pa1, Pb1, Pc1, Pd1⟩ := HP1.out.stop; have Pl1 := HP1.out.lt; have l1 := HW1.out.lu; clear hT1)
  all_goals go_wp2
  all_goals exact bodyPost_ret (v := stop0) (by simp [results, Try.results96, go_sem, u0, u1, u2, u3, u4, Pa1, Pb1, Pc1, Pd1, Pl1, l1]) rfl ⟨rfl, by
    have hB := HW1.out
    (repeat (first | with_reducible exact hB | with_reducible refine TuW.drew ?_ | with_reducible refine TuW.new ?_ (by omega) _ _ | with_reducible refine TuW.alloc ?_ _))⟩
set_option maxHeartbeats 1000000 in
theorem do27f (U X : Nat) (m : MS) (t : GS) (D S : Nat) (O : Int) (imm : Nat) (w : World) (H : TuW w w U X m t) (ht : t.Ok) (hi : imm < 4294967296) (hS : S < 8) (hD : D < 8) (hk : Fl.recOk O (t.R S) = false) :
    Calls Try.prog 96 #[.pointer (some ⟨U, 0, none⟩), insA 27 D S O imm] w fun e w' => e = .returned (.agg #[.int .i64 7, .int .u32 0]) ∧ TuW w w' U X m t := by
  have HH : Hid _ := H
  have HT : Hid _ := ht
  have u0 := H.hU
  have u1 : U < w.heap.size + 1 := by omega
  have u2 : U < w.heap.size + 1 + 1 := by omega
  have u3 : U < w.heap.size + 1 + 1 + 1 := by omega
  have u4 : U < w.heap.size + 1 + 1 + 1 + 1 := by omega
  have hp := ht.p
  have hf := ht.f
  have HB : Hid _ := hk
  clear hk
  have rS := tu_reg H.bU S hS
  have hSi : (S : Int) < 8 := by omega
  have hRS := ht.r S
  clear H ht
  go_enter Try.func96, Try.ntmps96
  go_wp2
  go_region_with (go_at_call 133; refine (reckf_any U X m t D S O imm _ ?_ HT.out hi hD 27 (t.R S) hRS HB.out).mono ?_; (focus (exact TuW.here (w := w) (by have hB := HH.out; (repeat (first | with_reducible exact hB | with_reducible refine TuW.drew ?_ | with_reducible refine TuW.new ?_ (by omega) _ _ | with_reducible refine TuW.alloc ?_ _))))); rintro e w1 ⟨rfl, hT1⟩; have HW1 : Hid (TuW w w1 U X m t) := TuW.from (m := m) (t := t) (by have hB := HH.out; (repeat (first | with_reducible exact hB | with_reducible refine TuW.drew ?_ | with_reducible refine TuW.new ?_ (by omega) _ _ | with_reducible refine TuW.alloc ?_ _))) hT1; have HP1 : Hid (Own w w1 (w.heap.size + 1) (stopB 0 0)) := Own.turn (by (repeat (first | with_reducible refine Own.drew ?_ | (with_reducible refine Own.last ?_ ?_; (focus (simp; done)); (focus omega)) | with_reducible refine Own.alloc ?_ _ | with_reducible refine Own.old ?_ u0 _ _ | with_reducible refine Own.other ?_ (by omega) _ _))) HH.out.hX HH.out.hU hT1; obtain ⟨Pa1, Pb1, Pc1, Pd1⟩ := HP1.out.stop; have Pl1 := HP1.out.lt; have l1 := HW1.out.lu; clear hT1)
  all_goals go_wp2
  all_goals exact bodyPost_ret (v := (.agg #[.int .i64 7, .int .u32 0])) (by simp [results, Try.results96, go_sem, u0, u1, u2, u3, u4, Pa1, Pb1, Pc1, Pd1, Pl1, l1]) rfl ⟨rfl, by
    have hB := HW1.out
    (repeat (first | with_reducible exact hB | with_reducible refine TuW.drew ?_ | with_reducible refine TuW.new ?_ (by omega) _ _ | with_reducible refine TuW.alloc ?_ _))⟩
set_option maxHeartbeats 1000000 in
theorem do28t (U X : Nat) (m : MS) (t : GS) (D S : Nat) (O : Int) (imm : Nat) (w : World) (H : TuW w w U X m t) (ht : t.Ok) (hi : imm < 4294967296) (hD : D < 8) (hk : Fl.recOk O imm = true) :
    Calls Try.prog 96 #[.pointer (some ⟨U, 0, none⟩), insA 28 D S O imm] w fun e w' => e = .returned stop0 ∧ TuW w w' U X m ((t.setR D (Fl.recX O (t.R D) imm t.f).toNat).setF (Fl.recFl O (t.R D) imm t.f).toNat) := by
  have HH : Hid _ := H
  have HT : Hid _ := ht
  have u0 := H.hU
  have u1 : U < w.heap.size + 1 := by omega
  have u2 : U < w.heap.size + 1 + 1 := by omega
  have u3 : U < w.heap.size + 1 + 1 + 1 := by omega
  have u4 : U < w.heap.size + 1 + 1 + 1 + 1 := by omega
  have hp := ht.p
  have hf := ht.f
  have HB : Hid _ := hk
  clear hk
  clear H ht
  go_enter Try.func96, Try.ntmps96
  go_wp2_with (go_at_call 133; refine (reckt_any U X m t D S O imm _ ?_ HT.out hi hD 28 imm hi HB.out).mono ?_; (focus (exact TuW.here (w := w) (by have hB := HH.out; (repeat (first | with_reducible exact hB | with_reducible refine TuW.drew ?_ | with_reducible refine TuW.new ?_ (by omega) _ _ | with_reducible refine TuW.alloc ?_ _))))); rintro e w1 ⟨rfl, hT1⟩; have HW1 : Hid (TuW w w1 U X m ((t.setR D (Fl.recX O (t.R D) imm t.f).toNat).setF (Fl.recFl O (t.R D) imm t.f).toNat)) := TuW.from (m := m) (t := t) (by have hB := HH.out; (repeat (first | with_reducible exact hB | with_reducible refine TuW.drew ?_ | with_reducible refine TuW.new ?_ (by omega) _ _ | with_reducible refine TuW.alloc ?_ _))) hT1; have HP1 : Hid (Own w w1 (w.heap.size + 1) (stopB 0 0)) := Own.turn (by (repeat (first | with_reducible refine Own.drew ?_ | (with_reducible refine Own.last ?_ ?_; (focus (simp; done)); (focus omega)) | with_reducible refine Own.alloc ?_ _ | with_reducible refine Own.old ?_ u0 _ _ | with_reducible refine Own.other ?_ (by omega) _ _))) HH.out.hX HH.out.hU hT1; obtain ⟨Pa1, Pb1, Pc1, Pd1⟩ := HP1.out.stop; have Pl1 := HP1.out.lt; have l1 := HW1.out.lu; clear hT1)
  all_goals exact bodyPost_ret (v := stop0) (by simp [results, Try.results96, go_sem, u0, u1, u2, u3, u4, Pa1, Pb1, Pc1, Pd1, Pl1, l1]) rfl ⟨rfl, by
    have hB := HW1.out
    (repeat (first | with_reducible exact hB | with_reducible refine TuW.drew ?_ | with_reducible refine TuW.new ?_ (by omega) _ _ | with_reducible refine TuW.alloc ?_ _))⟩
set_option maxHeartbeats 1000000 in
theorem do28f (U X : Nat) (m : MS) (t : GS) (D S : Nat) (O : Int) (imm : Nat) (w : World) (H : TuW w w U X m t) (ht : t.Ok) (hi : imm < 4294967296) (hD : D < 8) (hk : Fl.recOk O imm = false) :
    Calls Try.prog 96 #[.pointer (some ⟨U, 0, none⟩), insA 28 D S O imm] w fun e w' => e = .returned (.agg #[.int .i64 7, .int .u32 0]) ∧ TuW w w' U X m t := by
  have HH : Hid _ := H
  have HT : Hid _ := ht
  have u0 := H.hU
  have u1 : U < w.heap.size + 1 := by omega
  have u2 : U < w.heap.size + 1 + 1 := by omega
  have u3 : U < w.heap.size + 1 + 1 + 1 := by omega
  have u4 : U < w.heap.size + 1 + 1 + 1 + 1 := by omega
  have hp := ht.p
  have hf := ht.f
  have HB : Hid _ := hk
  clear hk
  clear H ht
  go_enter Try.func96, Try.ntmps96
  go_wp2_with (go_at_call 133; refine (reckf_any U X m t D S O imm _ ?_ HT.out hi hD 28 imm hi HB.out).mono ?_; (focus (exact TuW.here (w := w) (by have hB := HH.out; (repeat (first | with_reducible exact hB | with_reducible refine TuW.drew ?_ | with_reducible refine TuW.new ?_ (by omega) _ _ | with_reducible refine TuW.alloc ?_ _))))); rintro e w1 ⟨rfl, hT1⟩; have HW1 : Hid (TuW w w1 U X m t) := TuW.from (m := m) (t := t) (by have hB := HH.out; (repeat (first | with_reducible exact hB | with_reducible refine TuW.drew ?_ | with_reducible refine TuW.new ?_ (by omega) _ _ | with_reducible refine TuW.alloc ?_ _))) hT1; have HP1 : Hid (Own w w1 (w.heap.size + 1) (stopB 0 0)) := Own.turn (by (repeat (first | with_reducible refine Own.drew ?_ | (with_reducible refine Own.last ?_ ?_; (focus (simp; done)); (focus omega)) | with_reducible refine Own.alloc ?_ _ | with_reducible refine Own.old ?_ u0 _ _ | with_reducible refine Own.other ?_ (by omega) _ _))) HH.out.hX HH.out.hU hT1; obtain ⟨Pa1, Pb1, Pc1, Pd1⟩ := HP1.out.stop; have Pl1 := HP1.out.lt; have l1 := HW1.out.lu; clear hT1)
  all_goals exact bodyPost_ret (v := (.agg #[.int .i64 7, .int .u32 0])) (by simp [results, Try.results96, go_sem, u0, u1, u2, u3, u4, Pa1, Pb1, Pc1, Pd1, Pl1, l1]) rfl ⟨rfl, by
    have hB := HW1.out
    (repeat (first | with_reducible exact hB | with_reducible refine TuW.drew ?_ | with_reducible refine TuW.new ?_ (by omega) _ _ | with_reducible refine TuW.alloc ?_ _))⟩
set_option maxHeartbeats 1000000 in
theorem do29t (U X : Nat) (m : MS) (t : GS) (D S : Nat) (O : Int) (imm : Nat) (w : World) (H : TuW w w U X m t) (ht : t.Ok) (hi : imm < 4294967296) (hD : D < 8) (hk : Fl.recOk O imm = true) :
    Calls Try.prog 96 #[.pointer (some ⟨U, 0, none⟩), insA 29 D S O imm] w fun e w' => e = .returned stop0 ∧ TuW w w' U X m ((t.setR D (Fl.recX O (t.R D) imm t.f).toNat).setF (Fl.recFl O (t.R D) imm t.f).toNat) := by
  have HH : Hid _ := H
  have HT : Hid _ := ht
  have u0 := H.hU
  have u1 : U < w.heap.size + 1 := by omega
  have u2 : U < w.heap.size + 1 + 1 := by omega
  have u3 : U < w.heap.size + 1 + 1 + 1 := by omega
  have u4 : U < w.heap.size + 1 + 1 + 1 + 1 := by omega
  have hp := ht.p
  have hf := ht.f
  have HB : Hid _ := hk
  clear hk
  clear H ht
  go_enter Try.func96, Try.ntmps96
  go_wp2_with (go_at_call 133; refine (reckt_any U X m t D S O imm _ ?_ HT.out hi hD 29 imm hi HB.out).mono ?_; (focus (exact TuW.here (w := w) (by have hB := HH.out; (repeat (first | with_reducible exact hB | with_reducible refine TuW.drew ?_ | with_reducible refine TuW.new ?_ (by omega) _ _ | with_reducible refine TuW.alloc ?_ _))))); rintro e w1 ⟨rfl, hT1⟩; have HW1 : Hid (TuW w w1 U X m ((t.setR D (Fl.recX O (t.R D) imm t.f).toNat).setF (Fl.recFl O (t.R D) imm t.f).toNat)) := TuW.from (m := m) (t := t) (by have hB := HH.out; (repeat (first | with_reducible exact hB | with_reducible refine TuW.drew ?_ | with_reducible refine TuW.new ?_ (by omega) _ _ | with_reducible refine TuW.alloc ?_ _))) hT1; have HP1 : Hid (Own w w1 (w.heap.size + 1) (stopB 0 0)) := Own.turn (by (repeat (first | with_reducible refine Own.drew ?_ | (with_reducible refine Own.last ?_ ?_; (focus (simp; done)); (focus omega)) | with_reducible refine Own.alloc ?_ _ | with_reducible refine Own.old ?_ u0 _ _ | with_reducible refine Own.other ?_ (by omega) _ _))) HH.out.hX HH.out.hU hT1; obtain ⟨Pa1, Pb1, Pc1, Pd1⟩ := HP1.out.stop; have Pl1 := HP1.out.lt; have l1 := HW1.out.lu; clear hT1)
  all_goals exact bodyPost_ret (v := stop0) (by simp [results, Try.results96, go_sem, u0, u1, u2, u3, u4, Pa1, Pb1, Pc1, Pd1, Pl1, l1]) rfl ⟨rfl, by
    have hB := HW1.out
    (repeat (first | with_reducible exact hB | with_reducible refine TuW.drew ?_ | with_reducible refine TuW.new ?_ (by omega) _ _ | with_reducible refine TuW.alloc ?_ _))⟩
set_option maxHeartbeats 1000000 in
theorem do29f (U X : Nat) (m : MS) (t : GS) (D S : Nat) (O : Int) (imm : Nat) (w : World) (H : TuW w w U X m t) (ht : t.Ok) (hi : imm < 4294967296) (hD : D < 8) (hk : Fl.recOk O imm = false) :
    Calls Try.prog 96 #[.pointer (some ⟨U, 0, none⟩), insA 29 D S O imm] w fun e w' => e = .returned (.agg #[.int .i64 7, .int .u32 0]) ∧ TuW w w' U X m t := by
  have HH : Hid _ := H
  have HT : Hid _ := ht
  have u0 := H.hU
  have u1 : U < w.heap.size + 1 := by omega
  have u2 : U < w.heap.size + 1 + 1 := by omega
  have u3 : U < w.heap.size + 1 + 1 + 1 := by omega
  have u4 : U < w.heap.size + 1 + 1 + 1 + 1 := by omega
  have hp := ht.p
  have hf := ht.f
  have HB : Hid _ := hk
  clear hk
  clear H ht
  go_enter Try.func96, Try.ntmps96
  go_wp2_with (go_at_call 133; refine (reckf_any U X m t D S O imm _ ?_ HT.out hi hD 29 imm hi HB.out).mono ?_; (focus (exact TuW.here (w := w) (by have hB := HH.out; (repeat (first | with_reducible exact hB | with_reducible refine TuW.drew ?_ | with_reducible refine TuW.new ?_ (by omega) _ _ | with_reducible refine TuW.alloc ?_ _))))); rintro e w1 ⟨rfl, hT1⟩; have HW1 : Hid (TuW w w1 U X m t) := TuW.from (m := m) (t := t) (by have hB := HH.out; (repeat (first | with_reducible exact hB | with_reducible refine TuW.drew ?_ | with_reducible refine TuW.new ?_ (by omega) _ _ | with_reducible refine TuW.alloc ?_ _))) hT1; have HP1 : Hid (Own w w1 (w.heap.size + 1) (stopB 0 0)) := Own.turn (by (repeat (first | with_reducible refine Own.drew ?_ | (with_reducible refine Own.last ?_ ?_; (focus (simp; done)); (focus omega)) | with_reducible refine Own.alloc ?_ _ | with_reducible refine Own.old ?_ u0 _ _ | with_reducible refine Own.other ?_ (by omega) _ _))) HH.out.hX HH.out.hU hT1; obtain ⟨Pa1, Pb1, Pc1, Pd1⟩ := HP1.out.stop; have Pl1 := HP1.out.lt; have l1 := HW1.out.lu; clear hT1)
  all_goals exact bodyPost_ret (v := (.agg #[.int .i64 7, .int .u32 0])) (by simp [results, Try.results96, go_sem, u0, u1, u2, u3, u4, Pa1, Pb1, Pc1, Pd1, Pl1, l1]) rfl ⟨rfl, by
    have hB := HW1.out
    (repeat (first | with_reducible exact hB | with_reducible refine TuW.drew ?_ | with_reducible refine TuW.new ?_ (by omega) _ _ | with_reducible refine TuW.alloc ?_ _))⟩
end Go.Proofs.Ytkgbjpdoigdjnaa

namespace Go.Proofs.Ytkgbjpdoigdjnaa
open Go.RowKit
set_option maxRecDepth 100000
set_option linter.unusedVariables false
set_option linter.unusedSimpArgs false

set_option maxHeartbeats 1000000 in
theorem do300 (U X : Nat) (m : MS) (t : GS) (D S : Nat) (imm : Nat) (w : World) (H : TuW w w U X m t) (ht : t.Ok) (hi : imm < 4294967296) (hS : S < 8) (hD : D < 8) (hm : m.Ok) :
    Calls Try.prog 96 #[.pointer (some ⟨U, 0, none⟩), insA 30 D S 0 imm] w fun e w' => e = .returned (stVV 5 (badN m 1 (w32 ((t.R S : Int) + imm)) 1)) ∧ TuW w w' U X m (t.setR D (sx 0 (ldN m (w32 ((t.R S : Int) + imm)) 1))) := by
  have HH : Hid _ := H
  have HT : Hid _ := ht
  have u0 := H.hU
  have u1 : U < w.heap.size + 1 := by omega
  have u2 : U < w.heap.size + 1 + 1 := by omega
  have u3 : U < w.heap.size + 1 + 1 + 1 := by omega
  have u4 : U < w.heap.size + 1 + 1 + 1 + 1 := by omega
  have hp := ht.p
  have hf := ht.f
  have HM : Hid _ := hm
  clear hm
  clear H ht
  go_enter Try.func96, Try.ntmps96
  go_wp2_with (go_at_call 134; refine (load0 U X m t D S imm _ ?_ HT.out hi hS hD HM.out).mono ?_; (focus (exact TuW.here (w := w) (by have hB := HH.out; (repeat (first | with_reducible exact hB | with_reducible refine TuW.drew ?_ | with_reducible refine TuW.new ?_ (by omega) _ _ | with_reducible refine TuW.alloc ?_ _))))); rintro e w1 ⟨rfl, hT1⟩; have HW1 : Hid (TuW w w1 U X m (t.setR D (sx 0 (ldN m (w32 ((t.R S : Int) + imm)) 1)))) := TuW.from (m := m) (t := t) (by have hB := HH.out; (repeat (first | with_reducible exact hB | with_reducible refine TuW.drew ?_ | with_reducible refine TuW.new ?_ (by omega) _ _ | with_reducible refine TuW.alloc ?_ _))) hT1; have HP1 : Hid (Own w w1 (w.heap.size + 1) (stopB 0 0)) := Own.turn (by (repeat (first | with_reducible refine Own.drew ?_ | (with_reducible refine Own.last ?_ ?_; (focus (simp; done)); (focus omega)) | with_reducible refine Own.alloc ?_ _ | with_reducible refine Own.old ?_ u0 _ _ | with_reducible refine Own.other ?_ (by omega) _ _))) HH.out.hX HH.out.hU hT1; obtain ⟨Pa1, Pb1, Pc1, Pd1⟩ := HP1.out.stop; have Pl1 := HP1.out.lt; have l1 := HW1.out.lu; clear hT1)
  all_goals exact bodyPost_ret (v := (stVV 5 (badN m 1 (w32 ((t.R S : Int) + imm)) 1))) (by simp [results, Try.results96, go_sem, u0, u1, u2, u3, u4, Pa1, Pb1, Pc1, Pd1, Pl1, l1]) rfl ⟨rfl, by
    have hB := HW1.out
    (repeat (first | with_reducible exact hB | with_reducible refine TuW.drew ?_ | with_reducible refine TuW.new ?_ (by omega) _ _ | with_reducible refine TuW.alloc ?_ _))⟩
set_option maxHeartbeats 1000000 in
theorem do301 (U X : Nat) (m : MS) (t : GS) (D S : Nat) (imm : Nat) (w : World) (H : TuW w w U X m t) (ht : t.Ok) (hi : imm < 4294967296) (hS : S < 8) (hD : D < 8) (hm : m.Ok) :
    Calls Try.prog 96 #[.pointer (some ⟨U, 0, none⟩), insA 30 D S 1 imm] w fun e w' => e = .returned (stVV 5 (badN m 1 (w32 ((t.R S : Int) + imm)) 1)) ∧ TuW w w' U X m (t.setR D (sx 1 (ldN m (w32 ((t.R S : Int) + imm)) 1))) := by
  have HH : Hid _ := H
  have HT : Hid _ := ht
  have u0 := H.hU
  have u1 : U < w.heap.size + 1 := by omega
  have u2 : U < w.heap.size + 1 + 1 := by omega
  have u3 : U < w.heap.size + 1 + 1 + 1 := by omega
  have u4 : U < w.heap.size + 1 + 1 + 1 + 1 := by omega
  have hp := ht.p
  have hf := ht.f
  have HM : Hid _ := hm
  clear hm
  clear H ht
  go_enter Try.func96, Try.ntmps96
  go_wp2_with (go_at_call 134; refine (load1 U X m t D S imm _ ?_ HT.out hi hS hD HM.out).mono ?_; (focus (exact TuW.here (w := w) (by have hB := HH.out; (repeat (first | with_reducible exact hB | with_reducible refine TuW.drew ?_ | with_reducible refine TuW.new ?_ (by omega) _ _ | with_reducible refine TuW.alloc ?_ _))))); rintro e w1 ⟨rfl, hT1⟩; have HW1 : Hid (TuW w w1 U X m (t.setR D (sx 1 (ldN m (w32 ((t.R S : Int) + imm)) 1)))) := TuW.from (m := m) (t := t) (by have hB := HH.out; (repeat (first | with_reducible exact hB | with_reducible refine TuW.drew ?_ | with_reducible refine TuW.new ?_ (by omega) _ _ | with_reducible refine TuW.alloc ?_ _))) hT1; have HP1 : Hid (Own w w1 (w.heap.size + 1) (stopB 0 0)) := Own.turn (by (repeat (first | with_reducible refine Own.drew ?_ | (with_reducible refine Own.last ?_ ?_; (focus (simp; done)); (focus omega)) | with_reducible refine Own.alloc ?_ _ | with_reducible refine Own.old ?_ u0 _ _ | with_reducible refine Own.other ?_ (by omega) _ _))) HH.out.hX HH.out.hU hT1; obtain ⟨Pa1, Pb1, Pc1, Pd1⟩ := HP1.out.stop; have Pl1 := HP1.out.lt; have l1 := HW1.out.lu; clear hT1)
  all_goals exact bodyPost_ret (v := (stVV 5 (badN m 1 (w32 ((t.R S : Int) + imm)) 1))) (by simp [results, Try.results96, go_sem, u0, u1, u2, u3, u4, Pa1, Pb1, Pc1, Pd1, Pl1, l1]) rfl ⟨rfl, by
    have hB := HW1.out
    (repeat (first | with_reducible exact hB | with_reducible refine TuW.drew ?_ | with_reducible refine TuW.new ?_ (by omega) _ _ | with_reducible refine TuW.alloc ?_ _))⟩
set_option maxHeartbeats 1000000 in
theorem do302 (U X : Nat) (m : MS) (t : GS) (D S : Nat) (imm : Nat) (w : World) (H : TuW w w U X m t) (ht : t.Ok) (hi : imm < 4294967296) (hS : S < 8) (hD : D < 8) (hm : m.Ok) :
    Calls Try.prog 96 #[.pointer (some ⟨U, 0, none⟩), insA 30 D S 2 imm] w fun e w' => e = .returned (stVV 5 (badN m 1 (w32 ((t.R S : Int) + imm)) 2)) ∧ TuW w w' U X m (t.setR D (sx 2 (ldN m (w32 ((t.R S : Int) + imm)) 2))) := by
  have HH : Hid _ := H
  have HT : Hid _ := ht
  have u0 := H.hU
  have u1 : U < w.heap.size + 1 := by omega
  have u2 : U < w.heap.size + 1 + 1 := by omega
  have u3 : U < w.heap.size + 1 + 1 + 1 := by omega
  have u4 : U < w.heap.size + 1 + 1 + 1 + 1 := by omega
  have hp := ht.p
  have hf := ht.f
  have HM : Hid _ := hm
  clear hm
  clear H ht
  go_enter Try.func96, Try.ntmps96
  go_wp2_with (go_at_call 134; refine (load2 U X m t D S imm _ ?_ HT.out hi hS hD HM.out).mono ?_; (focus (exact TuW.here (w := w) (by have hB := HH.out; (repeat (first | with_reducible exact hB | with_reducible refine TuW.drew ?_ | with_reducible refine TuW.new ?_ (by omega) _ _ | with_reducible refine TuW.alloc ?_ _))))); rintro e w1 ⟨rfl, hT1⟩; have HW1 : Hid (TuW w w1 U X m (t.setR D (sx 2 (ldN m (w32 ((t.R S : Int) + imm)) 2)))) := TuW.from (m := m) (t := t) (by have hB := HH.out; (repeat (first | with_reducible exact hB | with_reducible refine TuW.drew ?_ | with_reducible refine TuW.new ?_ (by omega) _ _ | with_reducible refine TuW.alloc ?_ _))) hT1; have HP1 : Hid (Own w w1 (w.heap.size + 1) (stopB 0 0)) := Own.turn (by (repeat (first | with_reducible refine Own.drew ?_ | (with_reducible refine Own.last ?_ ?_; (focus (simp; done)); (focus omega)) | with_reducible refine Own.alloc ?_ _ | with_reducible refine Own.old ?_ u0 _ _ | with_reducible refine Own.other ?_ (by omega) _ _))) HH.out.hX HH.out.hU hT1; obtain ⟨Pa1, Pb1, Pc1, Pd1⟩ := HP1.out.stop; have Pl1 := HP1.out.lt; have l1 := HW1.out.lu; clear hT1)
  all_goals exact bodyPost_ret (v := (stVV 5 (badN m 1 (w32 ((t.R S : Int) + imm)) 2))) (by simp [results, Try.results96, go_sem, u0, u1, u2, u3, u4, Pa1, Pb1, Pc1, Pd1, Pl1, l1]) rfl ⟨rfl, by
    have hB := HW1.out
    (repeat (first | with_reducible exact hB | with_reducible refine TuW.drew ?_ | with_reducible refine TuW.new ?_ (by omega) _ _ | with_reducible refine TuW.alloc ?_ _))⟩
set_option maxHeartbeats 1000000 in
theorem do303 (U X : Nat) (m : MS) (t : GS) (D S : Nat) (imm : Nat) (w : World) (H : TuW w w U X m t) (ht : t.Ok) (hi : imm < 4294967296) (hS : S < 8) (hD : D < 8) (hm : m.Ok) :
    Calls Try.prog 96 #[.pointer (some ⟨U, 0, none⟩), insA 30 D S 3 imm] w fun e w' => e = .returned (stVV 5 (badN m 1 (w32 ((t.R S : Int) + imm)) 2)) ∧ TuW w w' U X m (t.setR D (sx 3 (ldN m (w32 ((t.R S : Int) + imm)) 2))) := by
  have HH : Hid _ := H
  have HT : Hid _ := ht
  have u0 := H.hU
  have u1 : U < w.heap.size + 1 := by omega
  have u2 : U < w.heap.size + 1 + 1 := by omega
  have u3 : U < w.heap.size + 1 + 1 + 1 := by omega
  have u4 : U < w.heap.size + 1 + 1 + 1 + 1 := by omega
  have hp := ht.p
  have hf := ht.f
  have HM : Hid _ := hm
  clear hm
  clear H ht
  go_enter Try.func96, Try.ntmps96
  go_wp2_with (go_at_call 134; refine (load3 U X m t D S imm _ ?_ HT.out hi hS hD HM.out).mono ?_; (focus (exact TuW.here (w := w) (by have hB := HH.out; (repeat (first | with_reducible exact hB | with_reducible refine TuW.drew ?_ | with_reducible refine TuW.new ?_ (by omega) _ _ | with_reducible refine TuW.alloc ?_ _))))); rintro e w1 ⟨rfl, hT1⟩; have HW1 : Hid (TuW w w1 U X m (t.setR D (sx 3 (ldN m (w32 ((t.R S : Int) + imm)) 2)))) := TuW.from (m := m) (t := t) (by have hB := HH.out; (repeat (first | with_reducible exact hB | with_reducible refine TuW.drew ?_ | with_reducible refine TuW.new ?_ (by omega) _ _ | with_reducible refine TuW.alloc ?_ _))) hT1; have HP1 : Hid (Own w w1 (w.heap.size + 1) (stopB 0 0)) := Own.turn (by (repeat (first | with_reducible refine Own.drew ?_ | (with_reducible refine Own.last ?_ ?_; (focus (simp; done)); (focus omega)) | with_reducible refine Own.alloc ?_ _ | with_reducible refine Own.old ?_ u0 _ _ | with_reducible refine Own.other ?_ (by omega) _ _))) HH.out.hX HH.out.hU hT1; obtain ⟨Pa1, Pb1, Pc1, Pd1⟩ := HP1.out.stop; have Pl1 := HP1.out.lt; have l1 := HW1.out.lu; clear hT1)
  all_goals exact bodyPost_ret (v := (stVV 5 (badN m 1 (w32 ((t.R S : Int) + imm)) 2))) (by simp [results, Try.results96, go_sem, u0, u1, u2, u3, u4, Pa1, Pb1, Pc1, Pd1, Pl1, l1]) rfl ⟨rfl, by
    have hB := HW1.out
    (repeat (first | with_reducible exact hB | with_reducible refine TuW.drew ?_ | with_reducible refine TuW.new ?_ (by omega) _ _ | with_reducible refine TuW.alloc ?_ _))⟩
set_option maxHeartbeats 1000000 in
theorem do304 (U X : Nat) (m : MS) (t : GS) (D S : Nat) (imm : Nat) (w : World) (H : TuW w w U X m t) (ht : t.Ok) (hi : imm < 4294967296) (hS : S < 8) (hD : D < 8) (hm : m.Ok) :
    Calls Try.prog 96 #[.pointer (some ⟨U, 0, none⟩), insA 30 D S 4 imm] w fun e w' => e = .returned (stVV 5 (badN m 1 (w32 ((t.R S : Int) + imm)) 4)) ∧ TuW w w' U X m (t.setR D (sx 4 (ldN m (w32 ((t.R S : Int) + imm)) 4))) := by
  have HH : Hid _ := H
  have HT : Hid _ := ht
  have u0 := H.hU
  have u1 : U < w.heap.size + 1 := by omega
  have u2 : U < w.heap.size + 1 + 1 := by omega
  have u3 : U < w.heap.size + 1 + 1 + 1 := by omega
  have u4 : U < w.heap.size + 1 + 1 + 1 + 1 := by omega
  have hp := ht.p
  have hf := ht.f
  have HM : Hid _ := hm
  clear hm
  clear H ht
  go_enter Try.func96, Try.ntmps96
  go_wp2_with (go_at_call 134; refine (load4 U X m t D S imm _ ?_ HT.out hi hS hD HM.out).mono ?_; (focus (exact TuW.here (w := w) (by have hB := HH.out; (repeat (first | with_reducible exact hB | with_reducible refine TuW.drew ?_ | with_reducible refine TuW.new ?_ (by omega) _ _ | with_reducible refine TuW.alloc ?_ _))))); rintro e w1 ⟨rfl, hT1⟩; have HW1 : Hid (TuW w w1 U X m (t.setR D (sx 4 (ldN m (w32 ((t.R S : Int) + imm)) 4)))) := TuW.from (m := m) (t := t) (by have hB := HH.out; (repeat (first | with_reducible exact hB | with_reducible refine TuW.drew ?_ | with_reducible refine TuW.new ?_ (by omega) _ _ | with_reducible refine TuW.alloc ?_ _))) hT1; have HP1 : Hid (Own w w1 (w.heap.size + 1) (stopB 0 0)) := Own.turn (by (repeat (first | with_reducible refine Own.drew ?_ | (with_reducible refine Own.last ?_ ?_; (focus (simp; done)); (focus omega)) | with_reducible refine Own.alloc ?_ _ | with_reducible refine Own.old ?_ u0 _ _ | with_reducible refine Own.other ?_ (by omega) _ _))) HH.out.hX HH.out.hU hT1; obtain ⟨Pa1, Pb1, Pc1, Pd1⟩ := HP1.out.stop; have Pl1 := HP1.out.lt; have l1 := HW1.out.lu; clear hT1)
  all_goals exact bodyPost_ret (v := (stVV 5 (badN m 1 (w32 ((t.R S : Int) + imm)) 4))) (by simp [results, Try.results96, go_sem, u0, u1, u2, u3, u4, Pa1, Pb1, Pc1, Pd1, Pl1, l1]) rfl ⟨rfl, by
    have hB := HW1.out
    (repeat (first | with_reducible exact hB | with_reducible refine TuW.drew ?_ | with_reducible refine TuW.new ?_ (by omega) _ _ | with_reducible refine TuW.alloc ?_ _))⟩
set_option maxHeartbeats 1000000 in
theorem do310 (U X : Nat) (m : MS) (t : GS) (D S : Nat) (imm : Nat) (w : World) (H : TuW w w U X m t) (ht : t.Ok) (hi : imm < 4294967296) (hS : S < 8) (hD : D < 8) (hm : m.Ok) :
    Calls Try.prog 96 #[.pointer (some ⟨U, 0, none⟩), insA 31 D S 0 imm] w fun e w' => e = .returned (stVV 6 (sto m (w32 ((t.R S : Int) + imm)) 1)) ∧ TuW w w' U X (storeT m (w32 ((t.R S : Int) + imm)) 1 (t.R D)) t := by
  have HH : Hid _ := H
  have HT : Hid _ := ht
  have u0 := H.hU
  have u1 : U < w.heap.size + 1 := by omega
  have u2 : U < w.heap.size + 1 + 1 := by omega
  have u3 : U < w.heap.size + 1 + 1 + 1 := by omega
  have u4 : U < w.heap.size + 1 + 1 + 1 + 1 := by omega
  have hp := ht.p
  have hf := ht.f
  have HM : Hid _ := hm
  clear hm
  clear H ht
  go_enter Try.func96, Try.ntmps96
  go_wp2_with (go_at_call 135; refine (store0 U X m t D S imm _ ?_ HT.out hi hS hD HM.out).mono ?_; (focus (exact TuW.here (w := w) (by have hB := HH.out; (repeat (first | with_reducible exact hB | with_reducible refine TuW.drew ?_ | with_reducible refine TuW.new ?_ (by omega) _ _ | with_reducible refine TuW.alloc ?_ _))))); rintro e w1 ⟨rfl, hT1⟩; have HW1 : Hid (TuW w w1 U X (storeT m (w32 ((t.R S : Int) + imm)) 1 (t.R D)) t) := TuW.from (m := m) (t := t) (by have hB := HH.out; (repeat (first | with_reducible exact hB | with_reducible refine TuW.drew ?_ | with_reducible refine TuW.new ?_ (by omega) _ _ | with_reducible refine TuW.alloc ?_ _))) hT1; have HP1 : Hid (Own w w1 (w.heap.size + 1) (stopB 0 0)) := Own.turn (by (repeat (first | with_reducible refine Own.drew ?_ | (with_reducible refine Own.last ?_ ?_; (focus (simp; done)); (focus omega)) | with_reducible refine Own.alloc ?_ _ | with_reducible refine Own.old ?_ u0 _ _ | with_reducible refine Own.other ?_ (by omega) _ _))) HH.out.hX HH.out.hU hT1; obtain ⟨Pa1, Pb1, Pc1, Pd1⟩ := HP1.out.stop; have Pl1 := HP1.out.lt; have l1 := HW1.out.lu; clear hT1)
  all_goals exact bodyPost_ret (v := (stVV 6 (sto m (w32 ((t.R S : Int) + imm)) 1))) (by simp [results, Try.results96, go_sem, u0, u1, u2, u3, u4, Pa1, Pb1, Pc1, Pd1, Pl1, l1]) rfl ⟨rfl, by
    have hB := HW1.out
    (repeat (first | with_reducible exact hB | with_reducible refine TuW.drew ?_ | with_reducible refine TuW.new ?_ (by omega) _ _ | with_reducible refine TuW.alloc ?_ _))⟩
set_option maxHeartbeats 1000000 in
theorem do311 (U X : Nat) (m : MS) (t : GS) (D S : Nat) (imm : Nat) (w : World) (H : TuW w w U X m t) (ht : t.Ok) (hi : imm < 4294967296) (hS : S < 8) (hD : D < 8) (hm : m.Ok) :
    Calls Try.prog 96 #[.pointer (some ⟨U, 0, none⟩), insA 31 D S 1 imm] w fun e w' => e = .returned (stVV 6 (sto m (w32 ((t.R S : Int) + imm)) 2)) ∧ TuW w w' U X (storeT m (w32 ((t.R S : Int) + imm)) 2 (t.R D)) t := by
  have HH : Hid _ := H
  have HT : Hid _ := ht
  have u0 := H.hU
  have u1 : U < w.heap.size + 1 := by omega
  have u2 : U < w.heap.size + 1 + 1 := by omega
  have u3 : U < w.heap.size + 1 + 1 + 1 := by omega
  have u4 : U < w.heap.size + 1 + 1 + 1 + 1 := by omega
  have hp := ht.p
  have hf := ht.f
  have HM : Hid _ := hm
  clear hm
  clear H ht
  go_enter Try.func96, Try.ntmps96
  go_wp2_with (go_at_call 135; refine (store1 U X m t D S imm _ ?_ HT.out hi hS hD HM.out).mono ?_; (focus (exact TuW.here (w := w) (by have hB := HH.out; (repeat (first | with_reducible exact hB | with_reducible refine TuW.drew ?_ | with_reducible refine TuW.new ?_ (by omega) _ _ | with_reducible refine TuW.alloc ?_ _))))); rintro e w1 ⟨rfl, hT1⟩; have HW1 : Hid (TuW w w1 U X (storeT m (w32 ((t.R S : Int) + imm)) 2 (t.R D)) t) := TuW.from (m := m) (t := t) (by have hB := HH.out; (repeat (first | with_reducible exact hB | with_reducible refine TuW.drew ?_ | with_reducible refine TuW.new ?_ (by omega) _ _ | with_reducible refine TuW.alloc ?_ _))) hT1; have HP1 : Hid (Own w w1 (w.heap.size + 1) (stopB 0 0)) := Own.turn (by (repeat (first | with_reducible refine Own.drew ?_ | (with_reducible refine Own.last ?_ ?_; (focus (simp; done)); (focus omega)) | with_reducible refine Own.alloc ?_ _ | with_reducible refine Own.old ?_ u0 _ _ | with_reducible refine Own.other ?_ (by omega) _ _))) HH.out.hX HH.out.hU hT1; obtain ⟨Pa1, Pb1, Pc1, Pd1⟩ := HP1.out.stop; have Pl1 := HP1.out.lt; have l1 := HW1.out.lu; clear hT1)
  all_goals exact bodyPost_ret (v := (stVV 6 (sto m (w32 ((t.R S : Int) + imm)) 2))) (by simp [results, Try.results96, go_sem, u0, u1, u2, u3, u4, Pa1, Pb1, Pc1, Pd1, Pl1, l1]) rfl ⟨rfl, by
    have hB := HW1.out
    (repeat (first | with_reducible exact hB | with_reducible refine TuW.drew ?_ | with_reducible refine TuW.new ?_ (by omega) _ _ | with_reducible refine TuW.alloc ?_ _))⟩
set_option maxHeartbeats 1000000 in
theorem do312 (U X : Nat) (m : MS) (t : GS) (D S : Nat) (imm : Nat) (w : World) (H : TuW w w U X m t) (ht : t.Ok) (hi : imm < 4294967296) (hS : S < 8) (hD : D < 8) (hm : m.Ok) :
    Calls Try.prog 96 #[.pointer (some ⟨U, 0, none⟩), insA 31 D S 2 imm] w fun e w' => e = .returned (stVV 6 (sto m (w32 ((t.R S : Int) + imm)) 4)) ∧ TuW w w' U X (storeT m (w32 ((t.R S : Int) + imm)) 4 (t.R D)) t := by
  have HH : Hid _ := H
  have HT : Hid _ := ht
  have u0 := H.hU
  have u1 : U < w.heap.size + 1 := by omega
  have u2 : U < w.heap.size + 1 + 1 := by omega
  have u3 : U < w.heap.size + 1 + 1 + 1 := by omega
  have u4 : U < w.heap.size + 1 + 1 + 1 + 1 := by omega
  have hp := ht.p
  have hf := ht.f
  have HM : Hid _ := hm
  clear hm
  clear H ht
  go_enter Try.func96, Try.ntmps96
  go_wp2_with (go_at_call 135; refine (store2 U X m t D S imm _ ?_ HT.out hi hS hD HM.out).mono ?_; (focus (exact TuW.here (w := w) (by have hB := HH.out; (repeat (first | with_reducible exact hB | with_reducible refine TuW.drew ?_ | with_reducible refine TuW.new ?_ (by omega) _ _ | with_reducible refine TuW.alloc ?_ _))))); rintro e w1 ⟨rfl, hT1⟩; have HW1 : Hid (TuW w w1 U X (storeT m (w32 ((t.R S : Int) + imm)) 4 (t.R D)) t) := TuW.from (m := m) (t := t) (by have hB := HH.out; (repeat (first | with_reducible exact hB | with_reducible refine TuW.drew ?_ | with_reducible refine TuW.new ?_ (by omega) _ _ | with_reducible refine TuW.alloc ?_ _))) hT1; have HP1 : Hid (Own w w1 (w.heap.size + 1) (stopB 0 0)) := Own.turn (by (repeat (first | with_reducible refine Own.drew ?_ | (with_reducible refine Own.last ?_ ?_; (focus (simp; done)); (focus omega)) | with_reducible refine Own.alloc ?_ _ | with_reducible refine Own.old ?_ u0 _ _ | with_reducible refine Own.other ?_ (by omega) _ _))) HH.out.hX HH.out.hU hT1; obtain ⟨Pa1, Pb1, Pc1, Pd1⟩ := HP1.out.stop; have Pl1 := HP1.out.lt; have l1 := HW1.out.lu; clear hT1)
  all_goals exact bodyPost_ret (v := (stVV 6 (sto m (w32 ((t.R S : Int) + imm)) 4))) (by simp [results, Try.results96, go_sem, u0, u1, u2, u3, u4, Pa1, Pb1, Pc1, Pd1, Pl1, l1]) rfl ⟨rfl, by
    have hB := HW1.out
    (repeat (first | with_reducible exact hB | with_reducible refine TuW.drew ?_ | with_reducible refine TuW.new ?_ (by omega) _ _ | with_reducible refine TuW.alloc ?_ _))⟩
end Go.Proofs.Ytkgbjpdoigdjnaa

namespace Go.Proofs.Ytkgbjpdoigdjnaa
open Go.RowKit
set_option maxRecDepth 100000
set_option linter.unusedVariables false
set_option linter.unusedSimpArgs false

set_option maxHeartbeats 1000000 in
theorem do24b (U X : Nat) (m : MS) (t : GS) (D S : Nat) (O : Int) (imm : Nat) (w : World) (H : TuW w w U X m t) (ht : t.Ok) (hi : imm < 4294967296) (hS : S < 8) (hD : D < 8) (hm : m.Ok) (x : Nat) (hbad : badN m 1 (w32 ((t.R S : Int) + imm)) 4 = some x) :
    Calls Try.prog 96 #[.pointer (some ⟨U, 0, none⟩), insA 24 D S O imm] w fun e w' => e = .returned (.agg #[.int .i64 5, .int .u32 x]) ∧ TuW w w' U X m t := by
  have HH : Hid _ := H
  have HT : Hid _ := ht
  have u0 := H.hU
  have u1 : U < w.heap.size + 1 := by omega
  have u2 : U < w.heap.size + 1 + 1 := by omega
  have u3 : U < w.heap.size + 1 + 1 + 1 := by omega
  have u4 : U < w.heap.size + 1 + 1 + 1 + 1 := by omega
  have hp := ht.p
  have hf := ht.f
  have HM : Hid _ := hm
  clear hm
  have HB : Hid _ := hbad
  clear hbad
  clear H ht
  go_enter Try.func96, Try.ntmps96
  go_wp2_with (go_at_call 136; refine (swap24b U X m t D S O imm _ ?_ HT.out hi hS hD HM.out x HB.out).mono ?_; (focus (exact TuW.here (w := w) (by have hB := HH.out; (repeat (first | with_reducible exact hB | with_reducible refine TuW.drew ?_ | with_reducible refine TuW.new ?_ (by omega) _ _ | with_reducible refine TuW.alloc ?_ _))))); rintro e w1 ⟨rfl, hT1⟩; have HW1 : Hid (TuW w w1 U X m t) := TuW.from (m := m) (t := t) (by have hB := HH.out; (repeat (first | with_reducible exact hB | with_reducible refine TuW.drew ?_ | with_reducible refine TuW.new ?_ (by omega) _ _ | with_reducible refine TuW.alloc ?_ _))) hT1; have HP1 : Hid (Own w w1 (w.heap.size + 1) (stopB 0 0)) := Own.turn (by (repeat (first | with_reducible refine Own.drew ?_ | (with_reducible refine Own.last ?_ ?_; (focus (simp; done)); (focus omega)) | with_reducible refine Own.alloc ?_ _ | with_reducible refine Own.old ?_ u0 _ _ | with_reducible refine Own.other ?_ (by omega) _ _))) HH.out.hX HH.out.hU hT1; obtain ⟨Pa1, Pb1, Pc1, Pd1⟩ := HP1.out.stop; have Pl1 := HP1.out.lt; have l1 := HW1.out.lu; clear hT1)
  all_goals exact bodyPost_ret (v := (.agg #[.int .i64 5, .int .u32 x])) (by simp [results, Try.results96, go_sem, u0, u1, u2, u3, u4, Pa1, Pb1, Pc1, Pd1, Pl1, l1]) rfl ⟨rfl, by
    have hB := HW1.out
    (repeat (first | with_reducible exact hB | with_reducible refine TuW.drew ?_ | with_reducible refine TuW.new ?_ (by omega) _ _ | with_reducible refine TuW.alloc ?_ _))⟩
set_option maxHeartbeats 1000000 in
theorem do25b (U X : Nat) (m : MS) (t : GS) (D S : Nat) (O : Int) (imm : Nat) (w : World) (H : TuW w w U X m t) (ht : t.Ok) (hi : imm < 4294967296) (hS : S < 8) (hD : D < 8) (hm : m.Ok) (x : Nat) (hbad : badN m 1 (w32 ((t.R S : Int) + imm)) 4 = some x) :
    Calls Try.prog 96 #[.pointer (some ⟨U, 0, none⟩), insA 25 D S O imm] w fun e w' => e = .returned (.agg #[.int .i64 5, .int .u32 x]) ∧ TuW w w' U X m t := by
  have HH : Hid _ := H
  have HT : Hid _ := ht
  have u0 := H.hU
  have u1 : U < w.heap.size + 1 := by omega
  have u2 : U < w.heap.size + 1 + 1 := by omega
  have u3 : U < w.heap.size + 1 + 1 + 1 := by omega
  have u4 : U < w.heap.size + 1 + 1 + 1 + 1 := by omega
  have hp := ht.p
  have hf := ht.f
  have HM : Hid _ := hm
  clear hm
  have HB : Hid _ := hbad
  clear hbad
  clear H ht
  go_enter Try.func96, Try.ntmps96
  go_wp2_with (go_at_call 136; refine (swap25b U X m t D S O imm _ ?_ HT.out hi hS hD HM.out x HB.out).mono ?_; (focus (exact TuW.here (w := w) (by have hB := HH.out; (repeat (first | with_reducible exact hB | with_reducible refine TuW.drew ?_ | with_reducible refine TuW.new ?_ (by omega) _ _ | with_reducible refine TuW.alloc ?_ _))))); rintro e w1 ⟨rfl, hT1⟩; have HW1 : Hid (TuW w w1 U X m t) := TuW.from (m := m) (t := t) (by have hB := HH.out; (repeat (first | with_reducible exact hB | with_reducible refine TuW.drew ?_ | with_reducible refine TuW.new ?_ (by omega) _ _ | with_reducible refine TuW.alloc ?_ _))) hT1; have HP1 : Hid (Own w w1 (w.heap.size + 1) (stopB 0 0)) := Own.turn (by (repeat (first | with_reducible refine Own.drew ?_ | (with_reducible refine Own.last ?_ ?_; (focus (simp; done)); (focus omega)) | with_reducible refine Own.alloc ?_ _ | with_reducible refine Own.old ?_ u0 _ _ | with_reducible refine Own.other ?_ (by omega) _ _))) HH.out.hX HH.out.hU hT1; obtain ⟨Pa1, Pb1, Pc1, Pd1⟩ := HP1.out.stop; have Pl1 := HP1.out.lt; have l1 := HW1.out.lu; clear hT1)
  all_goals exact bodyPost_ret (v := (.agg #[.int .i64 5, .int .u32 x])) (by simp [results, Try.results96, go_sem, u0, u1, u2, u3, u4, Pa1, Pb1, Pc1, Pd1, Pl1, l1]) rfl ⟨rfl, by
    have hB := HW1.out
    (repeat (first | with_reducible exact hB | with_reducible refine TuW.drew ?_ | with_reducible refine TuW.new ?_ (by omega) _ _ | with_reducible refine TuW.alloc ?_ _))⟩
set_option maxHeartbeats 1000000 in
theorem do26b (U X : Nat) (m : MS) (t : GS) (D S : Nat) (O : Int) (imm : Nat) (w : World) (H : TuW w w U X m t) (ht : t.Ok) (hi : imm < 4294967296) (hS : S < 8) (hD : D < 8) (hm : m.Ok) (x : Nat) (hbad : badN m 1 (w32 ((t.R S : Int) + imm)) 4 = some x) :
    Calls Try.prog 96 #[.pointer (some ⟨U, 0, none⟩), insA 26 D S O imm] w fun e w' => e = .returned (.agg #[.int .i64 5, .int .u32 x]) ∧ TuW w w' U X m t := by
  have HH : Hid _ := H
  have HT : Hid _ := ht
  have u0 := H.hU
  have u1 : U < w.heap.size + 1 := by omega
  have u2 : U < w.heap.size + 1 + 1 := by omega
  have u3 : U < w.heap.size + 1 + 1 + 1 := by omega
  have u4 : U < w.heap.size + 1 + 1 + 1 + 1 := by omega
  have hp := ht.p
  have hf := ht.f
  have HM : Hid _ := hm
  clear hm
  have HB : Hid _ := hbad
  clear hbad
  clear H ht
  go_enter Try.func96, Try.ntmps96
  go_wp2_with (go_at_call 136; refine (swap26b U X m t D S O imm _ ?_ HT.out hi hS hD HM.out x HB.out).mono ?_; (focus (exact TuW.here (w := w) (by have hB := HH.out; (repeat (first | with_reducible exact hB | with_reducible refine TuW.drew ?_ | with_reducible refine TuW.new ?_ (by omega) _ _ | with_reducible refine TuW.alloc ?_ _))))); rintro e w1 ⟨rfl, hT1⟩; have HW1 : Hid (TuW w w1 U X m t) := TuW.from (m := m) (t := t) (by have hB := HH.out; (repeat (first | with_reducible exact hB | with_reducible refine TuW.drew ?_ | with_reducible refine TuW.new ?_ (by omega) _ _ | with_reducible refine TuW.alloc ?_ _))) hT1; have HP1 : Hid (Own w w1 (w.heap.size + 1) (stopB 0 0)) := Own.turn (by (repeat (first | with_reducible refine Own.drew ?_ | (with_reducible refine Own.last ?_ ?_; (focus (simp; done)); (focus omega)) | with_reducible refine Own.alloc ?_ _ | with_reducible refine Own.old ?_ u0 _ _ | with_reducible refine Own.other ?_ (by omega) _ _))) HH.out.hX HH.out.hU hT1; obtain ⟨Pa1, Pb1, Pc1, Pd1⟩ := HP1.out.stop; have Pl1 := HP1.out.lt; have l1 := HW1.out.lu; clear hT1)
  all_goals exact bodyPost_ret (v := (.agg #[.int .i64 5, .int .u32 x])) (by simp [results, Try.results96, go_sem, u0, u1, u2, u3, u4, Pa1, Pb1, Pc1, Pd1, Pl1, l1]) rfl ⟨rfl, by
    have hB := HW1.out
    (repeat (first | with_reducible exact hB | with_reducible refine TuW.drew ?_ | with_reducible refine TuW.new ?_ (by omega) _ _ | with_reducible refine TuW.alloc ?_ _))⟩
set_option maxHeartbeats 1000000 in
theorem do24 (U X : Nat) (m : MS) (t : GS) (D S : Nat) (O : Int) (imm : Nat) (w : World) (H : TuW w w U X m t) (ht : t.Ok) (hi : imm < 4294967296) (hS : S < 8) (hD : D < 8) (hm : m.Ok) (hbad : badN m 1 (w32 ((t.R S : Int) + imm)) 4 = none) :
    Calls Try.prog 96 #[.pointer (some ⟨U, 0, none⟩), insA 24 D S O imm] w fun e w' => e = .returned (stVV 6 (sto m (w32 ((t.R S : Int) + imm)) 4)) ∧ TuW w w' U X (storeT m (w32 ((t.R S : Int) + imm)) 4 (t.R D)) (t.setR D (ldN m (w32 ((t.R S : Int) + imm)) 4)) := by
  have HH : Hid _ := H
  have HT : Hid _ := ht
  have u0 := H.hU
  have u1 : U < w.heap.size + 1 := by omega
  have u2 : U < w.heap.size + 1 + 1 := by omega
  have u3 : U < w.heap.size + 1 + 1 + 1 := by omega
  have u4 : U < w.heap.size + 1 + 1 + 1 + 1 := by omega
  have hp := ht.p
  have hf := ht.f
  have HM : Hid _ := hm
  clear hm
  have HB : Hid _ := hbad
  clear hbad
  clear H ht
  go_enter Try.func96, Try.ntmps96
  go_wp2_with (go_at_call 136; refine (swap24 U X m t D S O imm _ ?_ HT.out hi hS hD HM.out HB.out).mono ?_; (focus (exact TuW.here (w := w) (by have hB := HH.out; (repeat (first | with_reducible exact hB | with_reducible refine TuW.drew ?_ | with_reducible refine TuW.new ?_ (by omega) _ _ | with_reducible refine TuW.alloc ?_ _))))); rintro e w1 ⟨rfl, hT1⟩; have HW1 : Hid (TuW w w1 U X (storeT m (w32 ((t.R S : Int) + imm)) 4 (t.R D)) (t.setR D (ldN m (w32 ((t.R S : Int) + imm)) 4))) := TuW.from (m := m) (t := t) (by have hB := HH.out; (repeat (first | with_reducible exact hB | with_reducible refine TuW.drew ?_ | with_reducible refine TuW.new ?_ (by omega) _ _ | with_reducible refine TuW.alloc ?_ _))) hT1; have HP1 : Hid (Own w w1 (w.heap.size + 1) (stopB 0 0)) := Own.turn (by (repeat (first | with_reducible refine Own.drew ?_ | (with_reducible refine Own.last ?_ ?_; (focus (simp; done)); (focus omega)) | with_reducible refine Own.alloc ?_ _ | with_reducible refine Own.old ?_ u0 _ _ | with_reducible refine Own.other ?_ (by omega) _ _))) HH.out.hX HH.out.hU hT1; obtain ⟨Pa1, Pb1, Pc1, Pd1⟩ := HP1.out.stop; have Pl1 := HP1.out.lt; have l1 := HW1.out.lu; clear hT1)
  all_goals exact bodyPost_ret (v := (stVV 6 (sto m (w32 ((t.R S : Int) + imm)) 4))) (by simp [results, Try.results96, go_sem, u0, u1, u2, u3, u4, Pa1, Pb1, Pc1, Pd1, Pl1, l1]) rfl ⟨rfl, by
    have hB := HW1.out
    (repeat (first | with_reducible exact hB | with_reducible refine TuW.drew ?_ | with_reducible refine TuW.new ?_ (by omega) _ _ | with_reducible refine TuW.alloc ?_ _))⟩
set_option maxHeartbeats 1000000 in
theorem do25 (U X : Nat) (m : MS) (t : GS) (D S : Nat) (O : Int) (imm : Nat) (w : World) (H : TuW w w U X m t) (ht : t.Ok) (hi : imm < 4294967296) (hS : S < 8) (hD : D < 8) (hm : m.Ok) (hbad : badN m 1 (w32 ((t.R S : Int) + imm)) 4 = none) :
    Calls Try.prog 96 #[.pointer (some ⟨U, 0, none⟩), insA 25 D S O imm] w fun e w' => e = .returned (stVV 6 (sto m (w32 ((t.R S : Int) + imm)) 4)) ∧ TuW w w' U X (storeT m (w32 ((t.R S : Int) + imm)) 4 (wkX 1 (ldN m (w32 ((t.R S : Int) + imm)) 4) (t.R D) t.f).toNat) ((t.setF (Fl.flagsF 1 (ldN m (w32 ((t.R S : Int) + imm)) 4) (t.R D) t.f).toNat).setR D (ldN m (w32 ((t.R S : Int) + imm)) 4)) := by
  have HH : Hid _ := H
  have HT : Hid _ := ht
  have u0 := H.hU
  have u1 : U < w.heap.size + 1 := by omega
  have u2 : U < w.heap.size + 1 + 1 := by omega
  have u3 : U < w.heap.size + 1 + 1 + 1 := by omega
  have u4 : U < w.heap.size + 1 + 1 + 1 + 1 := by omega
  have hp := ht.p
  have hf := ht.f
  have HM : Hid _ := hm
  clear hm
  have HB : Hid _ := hbad
  clear hbad
  clear H ht
  go_enter Try.func96, Try.ntmps96
  go_wp2_with (go_at_call 136; refine (swap25 U X m t D S O imm _ ?_ HT.out hi hS hD HM.out HB.out).mono ?_; (focus (exact TuW.here (w := w) (by have hB := HH.out; (repeat (first | with_reducible exact hB | with_reducible refine TuW.drew ?_ | with_reducible refine TuW.new ?_ (by omega) _ _ | with_reducible refine TuW.alloc ?_ _))))); rintro e w1 ⟨rfl, hT1⟩; have HW1 : Hid (TuW w w1 U X (storeT m (w32 ((t.R S : Int) + imm)) 4 (wkX 1 (ldN m (w32 ((t.R S : Int) + imm)) 4) (t.R D) t.f).toNat) ((t.setF (Fl.flagsF 1 (ldN m (w32 ((t.R S : Int) + imm)) 4) (t.R D) t.f).toNat).setR D (ldN m (w32 ((t.R S : Int) + imm)) 4))) := TuW.from (m := m) (t := t) (by have hB := HH.out; (repeat (first | with_reducible exact hB | with_reducible refine TuW.drew ?_ | with_reducible refine TuW.new ?_ (by omega) _ _ | with_reducible refine TuW.alloc ?_ _))) hT1; have HP1 : Hid (Own w w1 (w.heap.size + 1) (stopB 0 0)) := Own.turn (by (repeat (first | with_reducible refine Own.drew ?_ | (with_reducible refine Own.last ?_ ?_; (focus (simp; done)); (focus omega)) | with_reducible refine Own.alloc ?_ _ | with_reducible refine Own.old ?_ u0 _ _ | with_reducible refine Own.other ?_ (by omega) _ _))) HH.out.hX HH.out.hU hT1; obtain ⟨Pa1, Pb1, Pc1, Pd1⟩ := HP1.out.stop; have Pl1 := HP1.out.lt; have l1 := HW1.out.lu; clear hT1)
  all_goals exact bodyPost_ret (v := (stVV 6 (sto m (w32 ((t.R S : Int) + imm)) 4))) (by simp [results, Try.results96, go_sem, u0, u1, u2, u3, u4, Pa1, Pb1, Pc1, Pd1, Pl1, l1]) rfl ⟨rfl, by
    have hB := HW1.out
    (repeat (first | with_reducible exact hB | with_reducible refine TuW.drew ?_ | with_reducible refine TuW.new ?_ (by omega) _ _ | with_reducible refine TuW.alloc ?_ _))⟩
set_option maxHeartbeats 1000000 in
theorem do26e (U X : Nat) (m : MS) (t : GS) (D S : Nat) (O : Int) (imm : Nat) (w : World) (H : TuW w w U X m t) (ht : t.Ok) (hi : imm < 4294967296) (hS : S < 8) (hD : D < 8) (hm : m.Ok) (hbad : badN m 1 (w32 ((t.R S : Int) + imm)) 4 = none) (heq : (ldN m (w32 ((t.R S : Int) + imm)) 4) = t.R 0) :
    Calls Try.prog 96 #[.pointer (some ⟨U, 0, none⟩), insA 26 D S O imm] w fun e w' => e = .returned (stVV 6 (sto m (w32 ((t.R S : Int) + imm)) 4)) ∧ TuW w w' U X (storeT m (w32 ((t.R S : Int) + imm)) 4 (t.R D)) (t.setF (Fl.flagsF 3 (t.R 0) (ldN m (w32 ((t.R S : Int) + imm)) 4) t.f).toNat) := by
  have HH : Hid _ := H
  have HT : Hid _ := ht
  have u0 := H.hU
  have u1 : U < w.heap.size + 1 := by omega
  have u2 : U < w.heap.size + 1 + 1 := by omega
  have u3 : U < w.heap.size + 1 + 1 + 1 := by omega
  have u4 : U < w.heap.size + 1 + 1 + 1 + 1 := by omega
  have hp := ht.p
  have hf := ht.f
  have HM : Hid _ := hm
  clear hm
  have HB : Hid _ := hbad
  clear hbad
  have HQ : Hid _ := heq
  clear heq
  clear H ht
  go_enter Try.func96, Try.ntmps96
  go_wp2_with (go_at_call 136; refine (swap26e U X m t D S O imm _ ?_ HT.out hi hS hD HM.out HB.out HQ.out).mono ?_; (focus (exact TuW.here (w := w) (by have hB := HH.out; (repeat (first | with_reducible exact hB | with_reducible refine TuW.drew ?_ | with_reducible refine TuW.new ?_ (by omega) _ _ | with_reducible refine TuW.alloc ?_ _))))); rintro e w1 ⟨rfl, hT1⟩; have HW1 : Hid (TuW w w1 U X (storeT m (w32 ((t.R S : Int) + imm)) 4 (t.R D)) (t.setF (Fl.flagsF 3 (t.R 0) (ldN m (w32 ((t.R S : Int) + imm)) 4) t.f).toNat)) := TuW.from (m := m) (t := t) (by have hB := HH.out; (repeat (first | with_reducible exact hB | with_reducible refine TuW.drew ?_ | with_reducible refine TuW.new ?_ (by omega) _ _ | with_reducible refine TuW.alloc ?_ _))) hT1; have HP1 : Hid (Own w w1 (w.heap.size + 1) (stopB 0 0)) := Own.turn (by (repeat (first | with_reducible refine Own.drew ?_ | (with_reducible refine Own.last ?_ ?_; (focus (simp; done)); (focus omega)) | with_reducible refine Own.alloc ?_ _ | with_reducible refine Own.old ?_ u0 _ _ | with_reducible refine Own.other ?_ (by omega) _ _))) HH.out.hX HH.out.hU hT1; obtain ⟨Pa1, Pb1, Pc1, Pd1⟩ := HP1.out.stop; have Pl1 := HP1.out.lt; have l1 := HW1.out.lu; clear hT1)
  all_goals exact bodyPost_ret (v := (stVV 6 (sto m (w32 ((t.R S : Int) + imm)) 4))) (by simp [results, Try.results96, go_sem, u0, u1, u2, u3, u4, Pa1, Pb1, Pc1, Pd1, Pl1, l1]) rfl ⟨rfl, by
    have hB := HW1.out
    (repeat (first | with_reducible exact hB | with_reducible refine TuW.drew ?_ | with_reducible refine TuW.new ?_ (by omega) _ _ | with_reducible refine TuW.alloc ?_ _))⟩
set_option maxHeartbeats 1000000 in
theorem do26n (U X : Nat) (m : MS) (t : GS) (D S : Nat) (O : Int) (imm : Nat) (w : World) (H : TuW w w U X m t) (ht : t.Ok) (hi : imm < 4294967296) (hS : S < 8) (hD : D < 8) (hm : m.Ok) (hbad : badN m 1 (w32 ((t.R S : Int) + imm)) 4 = none) (heq : ¬ (ldN m (w32 ((t.R S : Int) + imm)) 4) = t.R 0) :
    Calls Try.prog 96 #[.pointer (some ⟨U, 0, none⟩), insA 26 D S O imm] w fun e w' => e = .returned (stVV 6 (sto m (w32 ((t.R S : Int) + imm)) 4)) ∧ TuW w w' U X (storeT m (w32 ((t.R S : Int) + imm)) 4 (ldN m (w32 ((t.R S : Int) + imm)) 4)) ((t.setF (Fl.flagsF 3 (t.R 0) (ldN m (w32 ((t.R S : Int) + imm)) 4) t.f).toNat).setR 0 (ldN m (w32 ((t.R S : Int) + imm)) 4)) := by
  have HH : Hid _ := H
  have HT : Hid _ := ht
  have u0 := H.hU
  have u1 : U < w.heap.size + 1 := by omega
  have u2 : U < w.heap.size + 1 + 1 := by omega
  have u3 : U < w.heap.size + 1 + 1 + 1 := by omega
  have u4 : U < w.heap.size + 1 + 1 + 1 + 1 := by omega
  have hp := ht.p
  have hf := ht.f
  have HM : Hid _ := hm
  clear hm
  have HB : Hid _ := hbad
  clear hbad
  have HQ : Hid _ := heq
  clear heq
  clear H ht
  go_enter Try.func96, Try.ntmps96
  go_wp2_with (go_at_call 136; refine (swap26n U X m t D S O imm _ ?_ HT.out hi hS hD HM.out HB.out HQ.out).mono ?_; (focus (exact TuW.here (w := w) (by have hB := HH.out; (repeat (first | with_reducible exact hB | with_reducible refine TuW.drew ?_ | with_reducible refine TuW.new ?_ (by omega) _ _ | with_reducible refine TuW.alloc ?_ _))))); rintro e w1 ⟨rfl, hT1⟩; have HW1 : Hid (TuW w w1 U X (storeT m (w32 ((t.R S : Int) + imm)) 4 (ldN m (w32 ((t.R S : Int) + imm)) 4)) ((t.setF (Fl.flagsF 3 (t.R 0) (ldN m (w32 ((t.R S : Int) + imm)) 4) t.f).toNat).setR 0 (ldN m (w32 ((t.R S : Int) + imm)) 4))) := TuW.from (m := m) (t := t) (by have hB := HH.out; (repeat (first | with_reducible exact hB | with_reducible refine TuW.drew ?_ | with_reducible refine TuW.new ?_ (by omega) _ _ | with_reducible refine TuW.alloc ?_ _))) hT1; have HP1 : Hid (Own w w1 (w.heap.size + 1) (stopB 0 0)) := Own.turn (by (repeat (first | with_reducible refine Own.drew ?_ | (with_reducible refine Own.last ?_ ?_; (focus (simp; done)); (focus omega)) | with_reducible refine Own.alloc ?_ _ | with_reducible refine Own.old ?_ u0 _ _ | with_reducible refine Own.other ?_ (by omega) _ _))) HH.out.hX HH.out.hU hT1; obtain ⟨Pa1, Pb1, Pc1, Pd1⟩ := HP1.out.stop; have Pl1 := HP1.out.lt; have l1 := HW1.out.lu; clear hT1)
  all_goals exact bodyPost_ret (v := (stVV 6 (sto m (w32 ((t.R S : Int) + imm)) 4))) (by simp [results, Try.results96, go_sem, u0, u1, u2, u3, u4, Pa1, Pb1, Pc1, Pd1, Pl1, l1]) rfl ⟨rfl, by
    have hB := HW1.out
    (repeat (first | with_reducible exact hB | with_reducible refine TuW.drew ?_ | with_reducible refine TuW.new ?_ (by omega) _ _ | with_reducible refine TuW.alloc ?_ _))⟩
end Go.Proofs.Ytkgbjpdoigdjnaa
