import Derived.Test.YtkgbjpdoigdjnaaJ38
import Derived.Test.YtkgbjpdoigdjnaaJ16
import Derived.Test.YtkgbjpdoigdjnaaJ39
import Derived.Test.YtkgbjpdoigdjnaaJ40
import Derived.Test.YtkgbjpdoigdjnaaJ42
import Derived.Test.YtkgbjpdoigdjnaaJ41
namespace Go.Proofs.Ytkgbjpdoigdjnaa
open Go.RowKit
set_option maxRecDepth 100000
set_option linter.unusedVariables false
set_option linter.unusedSimpArgs false

theorem TuW.here {w W : World} {U X : Nat} {m : MS} {t : GS} (h : TuW w W U X m t) : TuW W W U X m t := ⟨h.pm, Chg.refl _ _, h.bU, h.lu, h.pm.lt, h.ne⟩
theorem TuW.from {w W w1 : World} {U X : Nat} {m m' : MS} {t t' : GS} (h : TuW w W U X m t) (k : TuW W w1 U X m' t') : TuW w w1 U X m' t' := ⟨k.pm, h.chg.trans k.chg, k.bU, h.hU, h.hX, h.ne⟩
theorem Own.turn {w W w1 : World} {U X q : Nat} {o : Obj} {m : MS} {t : GS} (h : Own w W q o) (hX : X < w.heap.size) (hU : U < w.heap.size) (k : TuW W w1 U X m t) : Own w w1 q o := by
  have hn := h.n
  exact ⟨(k.chg.block q (lt_of_block h.b) (by simp; omega)).trans h.b, h.n⟩
end Go.Proofs.Ytkgbjpdoigdjnaa

namespace Go.Proofs.Ytkgbjpdoigdjnaa
open Go.RowKit
set_option maxRecDepth 100000
set_option linter.unusedVariables false
set_option linter.unusedSimpArgs false

set_option maxHeartbeats 1000000 in
theorem do1 (U X : Nat) (m : MS) (t : GS) (D S : Nat) (O : Int) (imm : Nat) (w : World) (H : TuW w w U X m t) (ht : t.Ok) (hi : imm < 4294967296) :
    Calls Try.prog 96 #[.pointer (some ⟨U, 0, none⟩), insA 1 D S O imm] w fun e w' => e = .returned (.agg #[.int .i64 2, .int .u32 0]) ∧ TuW w w' U X m t := by
  have HH : Hid _ := H
  have HT : Hid _ := ht
  have u0 := H.hU
  have u1 : U < w.heap.size + 1 := by omega
  have u2 : U < w.heap.size + 1 + 1 := by omega
  have u3 : U < w.heap.size + 1 + 1 + 1 := by omega
  have u4 : U < w.heap.size + 1 + 1 + 1 + 1 := by omega
  have hp := ht.p
  have hf := ht.f
  clear H ht
  go_enter Try.func96, Try.ntmps96
  go_wp2
  all_goals exact bodyPost_ret (v := (.agg #[.int .i64 2, .int .u32 0])) (by simp [results, Try.results96, go_sem, u0, u1, u2, u3, u4]) rfl ⟨rfl, by
    have hB := HH.out
    (repeat (first | with_reducible exact hB | with_reducible refine TuW.drew ?_ | with_reducible refine TuW.new ?_ (by omega) _ _ | with_reducible refine TuW.alloc ?_ _))⟩
set_option maxHeartbeats 1000000 in
theorem do5 (U X : Nat) (m : MS) (t : GS) (D S : Nat) (O : Int) (imm : Nat) (w : World) (H : TuW w w U X m t) (ht : t.Ok) (hi : imm < 4294967296) :
    Calls Try.prog 96 #[.pointer (some ⟨U, 0, none⟩), insA 5 D S O imm] w fun e w' => e = .returned (.agg #[.int .i64 1, .int .u32 imm]) ∧ TuW w w' U X m t := by
  have HH : Hid _ := H
  have HT : Hid _ := ht
  have u0 := H.hU
  have u1 : U < w.heap.size + 1 := by omega
  have u2 : U < w.heap.size + 1 + 1 := by omega
  have u3 : U < w.heap.size + 1 + 1 + 1 := by omega
  have u4 : U < w.heap.size + 1 + 1 + 1 + 1 := by omega
  have hp := ht.p
  have hf := ht.f
  clear H ht
  go_enter Try.func96, Try.ntmps96
  go_wp2
  all_goals exact bodyPost_ret (v := (.agg #[.int .i64 1, .int .u32 imm])) (by simp [results, Try.results96, go_sem, u0, u1, u2, u3, u4]) rfl ⟨rfl, by
    have hB := HH.out
    (repeat (first | with_reducible exact hB | with_reducible refine TuW.drew ?_ | with_reducible refine TuW.new ?_ (by omega) _ _ | with_reducible refine TuW.alloc ?_ _))⟩
set_option maxHeartbeats 1000000 in
theorem do6 (U X : Nat) (m : MS) (t : GS) (D S : Nat) (O : Int) (imm : Nat) (w : World) (H : TuW w w U X m t) (ht : t.Ok) (hi : imm < 4294967296) :
    Calls Try.prog 96 #[.pointer (some ⟨U, 0, none⟩), insA 6 D S O imm] w fun e w' => e = .returned stop0 ∧ TuW w w' U X m (t.setPC (w32 ((t.pc : Int) + imm))) := by
  have HH : Hid _ := H
  have HT : Hid _ := ht
  have u0 := H.hU
  have u1 : U < w.heap.size + 1 := by omega
  have u2 : U < w.heap.size + 1 + 1 := by omega
  have u3 : U < w.heap.size + 1 + 1 + 1 := by omega
  have u4 : U < w.heap.size + 1 + 1 + 1 + 1 := by omega
  have hp := ht.p
  have hf := ht.f
  clear H ht
  go_enter Try.func96, Try.ntmps96
  go_wp2_with (go_at_call 130; refine (jump6 U X m t D S O imm _ ?_ HT.out hi).mono ?_; (focus (exact TuW.here (w := w) (by have hB := HH.out; (repeat (first | with_reducible exact hB | with_reducible refine TuW.drew ?_ | with_reducible refine TuW.new ?_ (by omega) _ _ | with_reducible refine TuW.alloc ?_ _))))); rintro e w1 ⟨rfl, hT1⟩; have HW1 : Hid (TuW w w1 U X m (t.setPC (w32 ((t.pc : Int) + imm)))) := TuW.from (m := m) (t := t) (by have hB := HH.out; (repeat (first | with_reducible exact hB | with_reducible refine TuW.drew ?_ | with_reducible refine TuW.new ?_ (by omega) _ _ | with_reducible refine TuW.alloc ?_ _))) hT1; have HP1 : Hid (Own w w1 (w.heap.size + 1) (stopB 0 0)) := Own.turn (by (repeat (first | with_reducible refine Own.drew ?_ | (with_reducible refine Own.last ?_ ?_; (focus (simp; done)); (focus omega)) | with_reducible refine Own.alloc ?_ _ | with_reducible refine Own.old ?_ u0 _ _ | with_reducible refine Own.other ?_ (by omega) _ _))) HH.out.hX HH.out.hU hT1; obtain ⟨Pa1, Pb1, Pc1, Pd1⟩ := HP1.out.stop; have Pl1 := HP1.out.lt; have l1 := HW1.out.lu; clear hT1)
  all_goals exact bodyPost_ret (v := stop0) (by simp [results, Try.results96, go_sem, u0, u1, u2, u3, u4, Pa1, Pb1, Pc1, Pd1, Pl1, l1]) rfl ⟨rfl, by
    have hB := HW1.out
    (repeat (first | with_reducible exact hB | with_reducible refine TuW.drew ?_ | with_reducible refine TuW.new ?_ (by omega) _ _ | with_reducible refine TuW.alloc ?_ _))⟩
set_option maxHeartbeats 1000000 in
theorem do7 (U X : Nat) (m : MS) (t : GS) (D S : Nat) (O : Int) (imm : Nat) (w : World) (H : TuW w w U X m t) (ht : t.Ok) (hi : imm < 4294967296) :
    Calls Try.prog 96 #[.pointer (some ⟨U, 0, none⟩), insA 7 D S O imm] w fun e w' => e = .returned stop0 ∧ TuW w w' U X m (t.setPC (w32 ((t.pc : Int) + imm))) := by
  have HH : Hid _ := H
  have HT : Hid _ := ht
  have u0 := H.hU
  have u1 : U < w.heap.size + 1 := by omega
  have u2 : U < w.heap.size + 1 + 1 := by omega
  have u3 : U < w.heap.size + 1 + 1 + 1 := by omega
  have u4 : U < w.heap.size + 1 + 1 + 1 + 1 := by omega
  have hp := ht.p
  have hf := ht.f
  clear H ht
  go_enter Try.func96, Try.ntmps96
  go_wp2_with (go_at_call 130; refine (jump7 U X m t D S O imm _ ?_ HT.out hi).mono ?_; (focus (exact TuW.here (w := w) (by have hB := HH.out; (repeat (first | with_reducible exact hB | with_reducible refine TuW.drew ?_ | with_reducible refine TuW.new ?_ (by omega) _ _ | with_reducible refine TuW.alloc ?_ _))))); rintro e w1 ⟨rfl, hT1⟩; have HW1 : Hid (TuW w w1 U X m (t.setPC (w32 ((t.pc : Int) + imm)))) := TuW.from (m := m) (t := t) (by have hB := HH.out; (repeat (first | with_reducible exact hB | with_reducible refine TuW.drew ?_ | with_reducible refine TuW.new ?_ (by omega) _ _ | with_reducible refine TuW.alloc ?_ _))) hT1; have HP1 : Hid (Own w w1 (w.heap.size + 1) (stopB 0 0)) := Own.turn (by (repeat (first | with_reducible refine Own.drew ?_ | (with_reducible refine Own.last ?_ ?_; (focus (simp; done)); (focus omega)) | with_reducible refine Own.alloc ?_ _ | with_reducible refine Own.old ?_ u0 _ _ | with_reducible refine Own.other ?_ (by omega) _ _))) HH.out.hX HH.out.hU hT1; obtain ⟨Pa1, Pb1, Pc1, Pd1⟩ := HP1.out.stop; have Pl1 := HP1.out.lt; have l1 := HW1.out.lu; clear hT1)
  all_goals exact bodyPost_ret (v := stop0) (by simp [results, Try.results96, go_sem, u0, u1, u2, u3, u4, Pa1, Pb1, Pc1, Pd1, Pl1, l1]) rfl ⟨rfl, by
    have hB := HW1.out
    (repeat (first | with_reducible exact hB | with_reducible refine TuW.drew ?_ | with_reducible refine TuW.new ?_ (by omega) _ _ | with_reducible refine TuW.alloc ?_ _))⟩
set_option maxHeartbeats 1000000 in
theorem do12t (U X : Nat) (m : MS) (t : GS) (D S : Nat) (O : Int) (imm : Nat) (w : World) (H : TuW w w U X m t) (ht : t.Ok) (hi : imm < 4294967296) (hO : O ≤ 9223372036854775807) (hb : Fl.holdsF O t.f = true) :
    Calls Try.prog 96 #[.pointer (some ⟨U, 0, none⟩), insA 12 D S O imm] w fun e w' => e = .returned stop0 ∧ TuW w w' U X m (t.setPC (w32 ((t.pc : Int) + imm))) := by
  have HH : Hid _ := H
  have HT : Hid _ := ht
  have u0 := H.hU
  have u1 : U < w.heap.size + 1 := by omega
  have u2 : U < w.heap.size + 1 + 1 := by omega
  have u3 : U < w.heap.size + 1 + 1 + 1 := by omega
  have u4 : U < w.heap.size + 1 + 1 + 1 + 1 := by omega
  have hp := ht.p
  have hf := ht.f
  have HB : Hid _ := hb
  clear hb
  clear H ht
  go_enter Try.func96, Try.ntmps96
  go_wp2_with (go_at_call 130; refine (jump12t U X m t D S O imm _ ?_ HT.out hi hO HB.out).mono ?_; (focus (exact TuW.here (w := w) (by have hB := HH.out; (repeat (first | with_reducible exact hB | with_reducible refine TuW.drew ?_ | with_reducible refine TuW.new ?_ (by omega) _ _ | with_reducible refine TuW.alloc ?_ _))))); rintro e w1 ⟨rfl, hT1⟩; have HW1 : Hid (TuW w w1 U X m (t.setPC (w32 ((t.pc : Int) + imm)))) := TuW.from (m := m) (t := t) (by have hB := HH.out; (repeat (first | with_reducible exact hB | with_reducible refine TuW.drew ?_ | with_reducible refine TuW.new ?_ (by omega) _ _ | with_reducible refine TuW.alloc ?_ _))) hT1; have HP1 : Hid (Own w w1 (w.heap.size + 1) (stopB 0 0)) := Own.turn (by (repeat (first | with_reducible refine Own.drew ?_ | (with_reducible refine Own.last ?_ ?_; (focus (simp; done)); (focus omega)) | with_reducible refine Own.alloc ?_ _ | with_reducible refine Own.old ?_ u0 _ _ | with_reducible refine Own.other ?_ (by omega) _ _))) HH.out.hX HH.out.hU hT1; obtain ⟨Pa1, Pb1, Pc1, Pd1⟩ := HP1.out.stop; have Pl1 := HP1.out.lt; have l1 := HW1.out.lu; clear hT1)
  all_goals exact bodyPost_ret (v := stop0) (by simp [results, Try.results96, go_sem, u0, u1, u2, u3, u4, Pa1, Pb1, Pc1, Pd1, Pl1, l1]) rfl ⟨rfl, by
    have hB := HW1.out
    (repeat (first | with_reducible exact hB | with_reducible refine TuW.drew ?_ | with_reducible refine TuW.new ?_ (by omega) _ _ | with_reducible refine TuW.alloc ?_ _))⟩
set_option maxHeartbeats 1000000 in
theorem do12f (U X : Nat) (m : MS) (t : GS) (D S : Nat) (O : Int) (imm : Nat) (w : World) (H : TuW w w U X m t) (ht : t.Ok) (hi : imm < 4294967296) (hO : O ≤ 9223372036854775807) (hb : Fl.holdsF O t.f = false) :
    Calls Try.prog 96 #[.pointer (some ⟨U, 0, none⟩), insA 12 D S O imm] w fun e w' => e = .returned stop0 ∧ TuW w w' U X m t := by
  have HH : Hid _ := H
  have HT : Hid _ := ht
  have u0 := H.hU
  have u1 : U < w.heap.size + 1 := by omega
  have u2 : U < w.heap.size + 1 + 1 := by omega
  have u3 : U < w.heap.size + 1 + 1 + 1 := by omega
  have u4 : U < w.heap.size + 1 + 1 + 1 + 1 := by omega
  have hp := ht.p
  have hf := ht.f
  have HB : Hid _ := hb
  clear hb
  clear H ht
  go_enter Try.func96, Try.ntmps96
  go_wp2_with (go_at_call 130; refine (jump12f U X m t D S O imm _ ?_ HT.out hi hO HB.out).mono ?_; (focus (exact TuW.here (w := w) (by have hB := HH.out; (repeat (first | with_reducible exact hB | with_reducible refine TuW.drew ?_ | with_reducible refine TuW.new ?_ (by omega) _ _ | with_reducible refine TuW.alloc ?_ _))))); rintro e w1 ⟨rfl, hT1⟩; have HW1 : Hid (TuW w w1 U X m t) := TuW.from (m := m) (t := t) (by have hB := HH.out; (repeat (first | with_reducible exact hB | with_reducible refine TuW.drew ?_ | with_reducible refine TuW.new ?_ (by omega) _ _ | with_reducible refine TuW.alloc ?_ _))) hT1; have HP1 : Hid (Own w w1 (w.heap.size + 1) (stopB 0 0)) := Own.turn (by (repeat (first | with_reducible refine Own.drew ?_ | (with_reducible refine Own.last ?_ ?_; (focus (simp; done)); (focus omega)) | with_reducible refine Own.alloc ?_ _ | with_reducible refine Own.old ?_ u0 _ _ | with_reducible refine Own.other ?_ (by omega) _ _))) HH.out.hX HH.out.hU hT1; obtain ⟨Pa1, Pb1, Pc1, Pd1⟩ := HP1.out.stop; have Pl1 := HP1.out.lt; have l1 := HW1.out.lu; clear hT1)
  all_goals exact bodyPost_ret (v := stop0) (by simp [results, Try.results96, go_sem, u0, u1, u2, u3, u4, Pa1, Pb1, Pc1, Pd1, Pl1, l1]) rfl ⟨rfl, by
    have hB := HW1.out
    (repeat (first | with_reducible exact hB | with_reducible refine TuW.drew ?_ | with_reducible refine TuW.new ?_ (by omega) _ _ | with_reducible refine TuW.alloc ?_ _))⟩
set_option maxHeartbeats 1000000 in
theorem do13t (U X : Nat) (m : MS) (t : GS) (D S : Nat) (O : Int) (imm : Nat) (w : World) (H : TuW w w U X m t) (ht : t.Ok) (hi : imm < 4294967296) (hO : O ≤ 9223372036854775807) (hb : Fl.holdsF O t.f = true) :
    Calls Try.prog 96 #[.pointer (some ⟨U, 0, none⟩), insA 13 D S O imm] w fun e w' => e = .returned stop0 ∧ TuW w w' U X m (t.setPC (w32 ((t.pc : Int) + imm))) := by
  have HH : Hid _ := H
  have HT : Hid _ := ht
  have u0 := H.hU
  have u1 : U < w.heap.size + 1 := by omega
  have u2 : U < w.heap.size + 1 + 1 := by omega
  have u3 : U < w.heap.size + 1 + 1 + 1 := by omega
  have u4 : U < w.heap.size + 1 + 1 + 1 + 1 := by omega
  have hp := ht.p
  have hf := ht.f
  have HB : Hid _ := hb
  clear hb
  clear H ht
  go_enter Try.func96, Try.ntmps96
  go_wp2_with (go_at_call 130; refine (jump13t U X m t D S O imm _ ?_ HT.out hi hO HB.out).mono ?_; (focus (exact TuW.here (w := w) (by have hB := HH.out; (repeat (first | with_reducible exact hB | with_reducible refine TuW.drew ?_ | with_reducible refine TuW.new ?_ (by omega) _ _ | with_reducible refine TuW.alloc ?_ _))))); rintro e w1 ⟨rfl, hT1⟩; have HW1 : Hid (TuW w w1 U X m (t.setPC (w32 ((t.pc : Int) + imm)))) := TuW.from (m := m) (t := t) (by have hB := HH.out; (repeat (first | with_reducible exact hB | with_reducible refine TuW.drew ?_ | with_reducible refine TuW.new ?_ (by omega) _ _ | with_reducible refine TuW.alloc ?_ _))) hT1; have HP1 : Hid (Own w w1 (w.heap.size + 1) (stopB 0 0)) := Own.turn (by (repeat (first | with_reducible refine Own.drew ?_ | (with_reducible refine Own.last ?_ ?_; (focus (simp; done)); (focus omega)) | with_reducible refine Own.alloc ?_ _ | with_reducible refine Own.old ?_ u0 _ _ | with_reducible refine Own.other ?_ (by omega) _ _))) HH.out.hX HH.out.hU hT1; obtain ⟨Pa1, Pb1, Pc1, Pd1⟩ := HP1.out.stop; have Pl1 := HP1.out.lt; have l1 := HW1.out.lu; clear hT1)
  all_goals exact bodyPost_ret (v := stop0) (by simp [results, Try.results96, go_sem, u0, u1, u2, u3, u4, Pa1, Pb1, Pc1, Pd1, Pl1, l1]) rfl ⟨rfl, by
    have hB := HW1.out
    (repeat (first | with_reducible exact hB | with_reducible refine TuW.drew ?_ | with_reducible refine TuW.new ?_ (by omega) _ _ | with_reducible refine TuW.alloc ?_ _))⟩
set_option maxHeartbeats 1000000 in
theorem do13f (U X : Nat) (m : MS) (t : GS) (D S : Nat) (O : Int) (imm : Nat) (w : World) (H : TuW w w U X m t) (ht : t.Ok) (hi : imm < 4294967296) (hO : O ≤ 9223372036854775807) (hb : Fl.holdsF O t.f = false) :
    Calls Try.prog 96 #[.pointer (some ⟨U, 0, none⟩), insA 13 D S O imm] w fun e w' => e = .returned stop0 ∧ TuW w w' U X m t := by
  have HH : Hid _ := H
  have HT : Hid _ := ht
  have u0 := H.hU
  have u1 : U < w.heap.size + 1 := by omega
  have u2 : U < w.heap.size + 1 + 1 := by omega
  have u3 : U < w.heap.size + 1 + 1 + 1 := by omega
  have u4 : U < w.heap.size + 1 + 1 + 1 + 1 := by omega
  have hp := ht.p
  have hf := ht.f
  have HB : Hid _ := hb
  clear hb
  clear H ht
  go_enter Try.func96, Try.ntmps96
  go_wp2_with (go_at_call 130; refine (jump13f U X m t D S O imm _ ?_ HT.out hi hO HB.out).mono ?_; (focus (exact TuW.here (w := w) (by have hB := HH.out; (repeat (first | with_reducible exact hB | with_reducible refine TuW.drew ?_ | with_reducible refine TuW.new ?_ (by omega) _ _ | with_reducible refine TuW.alloc ?_ _))))); rintro e w1 ⟨rfl, hT1⟩; have HW1 : Hid (TuW w w1 U X m t) := TuW.from (m := m) (t := t) (by have hB := HH.out; (repeat (first | with_reducible exact hB | with_reducible refine TuW.drew ?_ | with_reducible refine TuW.new ?_ (by omega) _ _ | with_reducible refine TuW.alloc ?_ _))) hT1; have HP1 : Hid (Own w w1 (w.heap.size + 1) (stopB 0 0)) := Own.turn (by (repeat (first | with_reducible refine Own.drew ?_ | (with_reducible refine Own.last ?_ ?_; (focus (simp; done)); (focus omega)) | with_reducible refine Own.alloc ?_ _ | with_reducible refine Own.old ?_ u0 _ _ | with_reducible refine Own.other ?_ (by omega) _ _))) HH.out.hX HH.out.hU hT1; obtain ⟨Pa1, Pb1, Pc1, Pd1⟩ := HP1.out.stop; have Pl1 := HP1.out.lt; have l1 := HW1.out.lu; clear hT1)
  all_goals exact bodyPost_ret (v := stop0) (by simp [results, Try.results96, go_sem, u0, u1, u2, u3, u4, Pa1, Pb1, Pc1, Pd1, Pl1, l1]) rfl ⟨rfl, by
    have hB := HW1.out
    (repeat (first | with_reducible exact hB | with_reducible refine TuW.drew ?_ | with_reducible refine TuW.new ?_ (by omega) _ _ | with_reducible refine TuW.alloc ?_ _))⟩
set_option maxHeartbeats 1000000 in
theorem do9 (U X : Nat) (m : MS) (t : GS) (D S : Nat) (O : Int) (imm : Nat) (w : World) (H : TuW w w U X m t) (ht : t.Ok) (hi : imm < 4294967296) (hS : S < 8) :
    Calls Try.prog 96 #[.pointer (some ⟨U, 0, none⟩), insA 9 D S O imm] w fun e w' => e = .returned stop0 ∧ TuW w w' U X m (t.setPC (t.R S)) := by
  have HH : Hid _ := H
  have HT : Hid _ := ht
  have u0 := H.hU
  have u1 : U < w.heap.size + 1 := by omega
  have u2 : U < w.heap.size + 1 + 1 := by omega
  have u3 : U < w.heap.size + 1 + 1 + 1 := by omega
  have u4 : U < w.heap.size + 1 + 1 + 1 + 1 := by omega
  have hp := ht.p
  have hf := ht.f
  clear H ht
  go_enter Try.func96, Try.ntmps96
  go_wp2_with (go_at_call 130; refine (jump9 U X m t D S O imm _ ?_ HT.out hi hS).mono ?_; (focus (exact TuW.here (w := w) (by have hB := HH.out; (repeat (first | with_reducible exact hB | with_reducible refine TuW.drew ?_ | with_reducible refine TuW.new ?_ (by omega) _ _ | with_reducible refine TuW.alloc ?_ _))))); rintro e w1 ⟨rfl, hT1⟩; have HW1 : Hid (TuW w w1 U X m (t.setPC (t.R S))) := TuW.from (m := m) (t := t) (by have hB := HH.out; (repeat (first | with_reducible exact hB | with_reducible refine TuW.drew ?_ | with_reducible refine TuW.new ?_ (by omega) _ _ | with_reducible refine TuW.alloc ?_ _))) hT1; have HP1 : Hid (Own w w1 (w.heap.size + 1) (stopB 0 0)) := Own.turn (by (repeat (first | with_reducible refine Own.drew ?_ | (with_reducible refine Own.last ?_ ?_; (focus (simp; done)); (focus omega)) | with_reducible refine Own.alloc ?_ _ | with_reducible refine Own.old ?_ u0 _ _ | with_reducible refine Own.other ?_ (by omega) _ _))) HH.out.hX HH.out.hU hT1; obtain ⟨Pa1, Pb1, Pc1, Pd1⟩ := HP1.out.stop; have Pl1 := HP1.out.lt; have l1 := HW1.out.lu; clear hT1)
  all_goals exact bodyPost_ret (v := stop0) (by simp [results, Try.results96, go_sem, u0, u1, u2, u3, u4, Pa1, Pb1, Pc1, Pd1, Pl1, l1]) rfl ⟨rfl, by
    have hB := HW1.out
    (repeat (first | with_reducible exact hB | with_reducible refine TuW.drew ?_ | with_reducible refine TuW.new ?_ (by omega) _ _ | with_reducible refine TuW.alloc ?_ _))⟩
set_option maxHeartbeats 1000000 in
theorem do11 (U X : Nat) (m : MS) (t : GS) (D S : Nat) (O : Int) (imm : Nat) (w : World) (H : TuW w w U X m t) (ht : t.Ok) (hi : imm < 4294967296) (hS : S < 8) (hm : m.Ok) :
    Calls Try.prog 96 #[.pointer (some ⟨U, 0, none⟩), insA 11 D S O imm] w fun e w' => e = .returned (stVV 5 (badN m 1 (w32 ((t.R S : Int) + imm)) 4)) ∧ TuW w w' U X m (t.setPC (ldN m (w32 ((t.R S : Int) + imm)) 4)) := by
  have HH : Hid _ := H
  have HT : Hid _ := ht
  have u0 := H.hU
  have u1 : U < w.heap.size + 1 := by omega
  have u2 : U < w.heap.size + 1 + 1 := by omega
  have u3 : U < w.heap.size + 1 + 1 + 1 := by omega
  have u4 : U < w.heap.size + 1 + 1 + 1 + 1 := by omega
  have hp := ht.p
  have hf := ht.f
  have HM : Hid _ := hm
  clear hm
  clear H ht
  go_enter Try.func96, Try.ntmps96
  go_wp2_with (go_at_call 130; refine (jump11 U X m t D S O imm _ ?_ HT.out hi hS HM.out).mono ?_; (focus (exact TuW.here (w := w) (by have hB := HH.out; (repeat (first | with_reducible exact hB | with_reducible refine TuW.drew ?_ | with_reducible refine TuW.new ?_ (by omega) _ _ | with_reducible refine TuW.alloc ?_ _))))); rintro e w1 ⟨rfl, hT1⟩; have HW1 : Hid (TuW w w1 U X m (t.setPC (ldN m (w32 ((t.R S : Int) + imm)) 4))) := TuW.from (m := m) (t := t) (by have hB := HH.out; (repeat (first | with_reducible exact hB | with_reducible refine TuW.drew ?_ | with_reducible refine TuW.new ?_ (by omega) _ _ | with_reducible refine TuW.alloc ?_ _))) hT1; have HP1 : Hid (Own w w1 (w.heap.size + 1) (stopB 0 0)) := Own.turn (by (repeat (first | with_reducible refine Own.drew ?_ | (with_reducible refine Own.last ?_ ?_; (focus (simp; done)); (focus omega)) | with_reducible refine Own.alloc ?_ _ | with_reducible refine Own.old ?_ u0 _ _ | with_reducible refine Own.other ?_ (by omega) _ _))) HH.out.hX HH.out.hU hT1; obtain ⟨Pa1, Pb1, Pc1, Pd1⟩ := HP1.out.stop; have Pl1 := HP1.out.lt; have l1 := HW1.out.lu; clear hT1)
  all_goals exact bodyPost_ret (v := (stVV 5 (badN m 1 (w32 ((t.R S : Int) + imm)) 4))) (by simp [results, Try.results96, go_sem, u0, u1, u2, u3, u4, Pa1, Pb1, Pc1, Pd1, Pl1, l1]) rfl ⟨rfl, by
    have hB := HW1.out
    (repeat (first | with_reducible exact hB | with_reducible refine TuW.drew ?_ | with_reducible refine TuW.new ?_ (by omega) _ _ | with_reducible refine TuW.alloc ?_ _))⟩
end Go.Proofs.Ytkgbjpdoigdjnaa

namespace Go.Proofs.Ytkgbjpdoigdjnaa
open Go.RowKit
set_option maxRecDepth 100000
set_option linter.unusedVariables false
set_option linter.unusedSimpArgs false

set_option maxHeartbeats 1000000 in
theorem do14 (U X : Nat) (m : MS) (t : GS) (D S : Nat) (O : Int) (imm : Nat) (w : World) (H : TuW w w U X m t) (ht : t.Ok) (hi : imm < 4294967296) (hS : S < 8) (hm : m.Ok) :
    Calls Try.prog 96 #[.pointer (some ⟨U, 0, none⟩), insA 14 D S O imm] w fun e w' => e = .returned (stVV 6 (sto m (w32 ((t.R 7 : Int) - 4)) 4)) ∧ TuW w w' U X (storeT m (w32 ((t.R 7 : Int) - 4)) 4 (t.R S)) ((t.setR 7 (w32 ((t.R 7 : Int) - 4))).setPC t.pc) := by
  have HH : Hid _ := H
  have HT : Hid _ := ht
  have u0 := H.hU
  have u1 : U < w.heap.size + 1 := by omega
  have u2 : U < w.heap.size + 1 + 1 := by omega
  have u3 : U < w.heap.size + 1 + 1 + 1 := by omega
  have u4 : U < w.heap.size + 1 + 1 + 1 + 1 := by omega
  have hp := ht.p
  have hf := ht.f
  have HM : Hid _ := hm
  clear hm
  clear H ht
  go_enter Try.func96, Try.ntmps96
  go_wp2_with (go_at_call 131; refine (push14 U X m t D S O imm _ ?_ HT.out hi hS HM.out).mono ?_; (focus (exact TuW.here (w := w) (by have hB := HH.out; (repeat (first | with_reducible exact hB | with_reducible refine TuW.drew ?_ | with_reducible refine TuW.new ?_ (by omega) _ _ | with_reducible refine TuW.alloc ?_ _))))); rintro e w1 ⟨rfl, hT1⟩; have HW1 : Hid (TuW w w1 U X (storeT m (w32 ((t.R 7 : Int) - 4)) 4 (t.R S)) ((t.setR 7 (w32 ((t.R 7 : Int) - 4))).setPC t.pc)) := TuW.from (m := m) (t := t) (by have hB := HH.out; (repeat (first | with_reducible exact hB | with_reducible refine TuW.drew ?_ | with_reducible refine TuW.new ?_ (by omega) _ _ | with_reducible refine TuW.alloc ?_ _))) hT1; have HP1 : Hid (Own w w1 (w.heap.size + 1) (stopB 0 0)) := Own.turn (by (repeat (first | with_reducible refine Own.drew ?_ | (with_reducible refine Own.last ?_ ?_; (focus (simp; done)); (focus omega)) | with_reducible refine Own.alloc ?_ _ | with_reducible refine Own.old ?_ u0 _ _ | with_reducible refine Own.other ?_ (by omega) _ _))) HH.out.hX HH.out.hU hT1; obtain ⟨Pa1, Pb1, Pc1, Pd1⟩ := HP1.out.stop; have Pl1 := HP1.out.lt; have l1 := HW1.out.lu; clear hT1)
  all_goals exact bodyPost_ret (v := (stVV 6 (sto m (w32 ((t.R 7 : Int) - 4)) 4))) (by simp [results, Try.results96, go_sem, u0, u1, u2, u3, u4, Pa1, Pb1, Pc1, Pd1, Pl1, l1]) rfl ⟨rfl, by
    have hB := HW1.out
    (repeat (first | with_reducible exact hB | with_reducible refine TuW.drew ?_ | with_reducible refine TuW.new ?_ (by omega) _ _ | with_reducible refine TuW.alloc ?_ _))⟩
set_option maxHeartbeats 1000000 in
theorem do3 (U X : Nat) (m : MS) (t : GS) (D S : Nat) (O : Int) (imm : Nat) (w : World) (H : TuW w w U X m t) (ht : t.Ok) (hi : imm < 4294967296) (hS : S < 8) (hm : m.Ok) :
    Calls Try.prog 96 #[.pointer (some ⟨U, 0, none⟩), insA 3 D S O imm] w fun e w' => e = .returned (stVV 6 (sto m (w32 ((t.R 7 : Int) - 4)) 4)) ∧ TuW w w' U X (storeT m (w32 ((t.R 7 : Int) - 4)) 4 t.f) ((t.setR 7 (w32 ((t.R 7 : Int) - 4))).setPC t.pc) := by
  have HH : Hid _ := H
  have HT : Hid _ := ht
  have u0 := H.hU
  have u1 : U < w.heap.size + 1 := by omega
  have u2 : U < w.heap.size + 1 + 1 := by omega
  have u3 : U < w.heap.size + 1 + 1 + 1 := by omega
  have u4 : U < w.heap.size + 1 + 1 + 1 + 1 := by omega
  have hp := ht.p
  have hf := ht.f
  have HM : Hid _ := hm
  clear hm
  clear H ht
  go_enter Try.func96, Try.ntmps96
  go_wp2_with (go_at_call 131; refine (push3 U X m t D S O imm _ ?_ HT.out hi hS HM.out).mono ?_; (focus (exact TuW.here (w := w) (by have hB := HH.out; (repeat (first | with_reducible exact hB | with_reducible refine TuW.drew ?_ | with_reducible refine TuW.new ?_ (by omega) _ _ | with_reducible refine TuW.alloc ?_ _))))); rintro e w1 ⟨rfl, hT1⟩; have HW1 : Hid (TuW w w1 U X (storeT m (w32 ((t.R 7 : Int) - 4)) 4 t.f) ((t.setR 7 (w32 ((t.R 7 : Int) - 4))).setPC t.pc)) := TuW.from (m := m) (t := t) (by have hB := HH.out; (repeat (first | with_reducible exact hB | with_reducible refine TuW.drew ?_ | with_reducible refine TuW.new ?_ (by omega) _ _ | with_reducible refine TuW.alloc ?_ _))) hT1; have HP1 : Hid (Own w w1 (w.heap.size + 1) (stopB 0 0)) := Own.turn (by (repeat (first | with_reducible refine Own.drew ?_ | (with_reducible refine Own.last ?_ ?_; (focus (simp; done)); (focus omega)) | with_reducible refine Own.alloc ?_ _ | with_reducible refine Own.old ?_ u0 _ _ | with_reducible refine Own.other ?_ (by omega) _ _))) HH.out.hX HH.out.hU hT1; obtain ⟨Pa1, Pb1, Pc1, Pd1⟩ := HP1.out.stop; have Pl1 := HP1.out.lt; have l1 := HW1.out.lu; clear hT1)
  all_goals exact bodyPost_ret (v := (stVV 6 (sto m (w32 ((t.R 7 : Int) - 4)) 4))) (by simp [results, Try.results96, go_sem, u0, u1, u2, u3, u4, Pa1, Pb1, Pc1, Pd1, Pl1, l1]) rfl ⟨rfl, by
    have hB := HW1.out
    (repeat (first | with_reducible exact hB | with_reducible refine TuW.drew ?_ | with_reducible refine TuW.new ?_ (by omega) _ _ | with_reducible refine TuW.alloc ?_ _))⟩
set_option maxHeartbeats 1000000 in
theorem do8 (U X : Nat) (m : MS) (t : GS) (D S : Nat) (O : Int) (imm : Nat) (w : World) (H : TuW w w U X m t) (ht : t.Ok) (hi : imm < 4294967296) (hS : S < 8) (hm : m.Ok) :
    Calls Try.prog 96 #[.pointer (some ⟨U, 0, none⟩), insA 8 D S O imm] w fun e w' => e = .returned (stVV 6 (sto m (w32 ((t.R 7 : Int) - 4)) 4)) ∧ TuW w w' U X (storeT m (w32 ((t.R 7 : Int) - 4)) 4 t.pc) ((t.setR 7 (w32 ((t.R 7 : Int) - 4))).setPC (w32 ((t.pc : Int) + imm))) := by
  have HH : Hid _ := H
  have HT : Hid _ := ht
  have u0 := H.hU
  have u1 : U < w.heap.size + 1 := by omega
  have u2 : U < w.heap.size + 1 + 1 := by omega
  have u3 : U < w.heap.size + 1 + 1 + 1 := by omega
  have u4 : U < w.heap.size + 1 + 1 + 1 + 1 := by omega
  have hp := ht.p
  have hf := ht.f
  have HM : Hid _ := hm
  clear hm
  clear H ht
  go_enter Try.func96, Try.ntmps96
  go_wp2_with (go_at_call 131; refine (push8 U X m t D S O imm _ ?_ HT.out hi hS HM.out).mono ?_; (focus (exact TuW.here (w := w) (by have hB := HH.out; (repeat (first | with_reducible exact hB | with_reducible refine TuW.drew ?_ | with_reducible refine TuW.new ?_ (by omega) _ _ | with_reducible refine TuW.alloc ?_ _))))); rintro e w1 ⟨rfl, hT1⟩; have HW1 : Hid (TuW w w1 U X (storeT m (w32 ((t.R 7 : Int) - 4)) 4 t.pc) ((t.setR 7 (w32 ((t.R 7 : Int) - 4))).setPC (w32 ((t.pc : Int) + imm)))) := TuW.from (m := m) (t := t) (by have hB := HH.out; (repeat (first | with_reducible exact hB | with_reducible refine TuW.drew ?_ | with_reducible refine TuW.new ?_ (by omega) _ _ | with_reducible refine TuW.alloc ?_ _))) hT1; have HP1 : Hid (Own w w1 (w.heap.size + 1) (stopB 0 0)) := Own.turn (by (repeat (first | with_reducible refine Own.drew ?_ | (with_reducible refine Own.last ?_ ?_; (focus (simp; done)); (focus omega)) | with_reducible refine Own.alloc ?_ _ | with_reducible refine Own.old ?_ u0 _ _ | with_reducible refine Own.other ?_ (by omega) _ _))) HH.out.hX HH.out.hU hT1; obtain ⟨Pa1, Pb1, Pc1, Pd1⟩ := HP1.out.stop; have Pl1 := HP1.out.lt; have l1 := HW1.out.lu; clear hT1)
  all_goals exact bodyPost_ret (v := (stVV 6 (sto m (w32 ((t.R 7 : Int) - 4)) 4))) (by simp [results, Try.results96, go_sem, u0, u1, u2, u3, u4, Pa1, Pb1, Pc1, Pd1, Pl1, l1]) rfl ⟨rfl, by
    have hB := HW1.out
    (repeat (first | with_reducible exact hB | with_reducible refine TuW.drew ?_ | with_reducible refine TuW.new ?_ (by omega) _ _ | with_reducible refine TuW.alloc ?_ _))⟩
set_option maxHeartbeats 1000000 in
theorem do10 (U X : Nat) (m : MS) (t : GS) (D S : Nat) (O : Int) (imm : Nat) (w : World) (H : TuW w w U X m t) (ht : t.Ok) (hi : imm < 4294967296) (hS : S < 8) (hm : m.Ok) :
    Calls Try.prog 96 #[.pointer (some ⟨U, 0, none⟩), insA 10 D S O imm] w fun e w' => e = .returned (stVV 6 (sto m (w32 ((t.R 7 : Int) - 4)) 4)) ∧ TuW w w' U X (storeT m (w32 ((t.R 7 : Int) - 4)) 4 t.pc) ((t.setR 7 (w32 ((t.R 7 : Int) - 4))).setPC (t.R S)) := by
  have HH : Hid _ := H
  have HT : Hid _ := ht
  have u0 := H.hU
  have u1 : U < w.heap.size + 1 := by omega
  have u2 : U < w.heap.size + 1 + 1 := by omega
  have u3 : U < w.heap.size + 1 + 1 + 1 := by omega
  have u4 : U < w.heap.size + 1 + 1 + 1 + 1 := by omega
  have hp := ht.p
  have hf := ht.f
  have HM : Hid _ := hm
  clear hm
  clear H ht
  go_enter Try.func96, Try.ntmps96
  go_wp2_with (go_at_call 131; refine (push10 U X m t D S O imm _ ?_ HT.out hi hS HM.out).mono ?_; (focus (exact TuW.here (w := w) (by have hB := HH.out; (repeat (first | with_reducible exact hB | with_reducible refine TuW.drew ?_ | with_reducible refine TuW.new ?_ (by omega) _ _ | with_reducible refine TuW.alloc ?_ _))))); rintro e w1 ⟨rfl, hT1⟩; have HW1 : Hid (TuW w w1 U X (storeT m (w32 ((t.R 7 : Int) - 4)) 4 t.pc) ((t.setR 7 (w32 ((t.R 7 : Int) - 4))).setPC (t.R S))) := TuW.from (m := m) (t := t) (by have hB := HH.out; (repeat (first | with_reducible exact hB | with_reducible refine TuW.drew ?_ | with_reducible refine TuW.new ?_ (by omega) _ _ | with_reducible refine TuW.alloc ?_ _))) hT1; have HP1 : Hid (Own w w1 (w.heap.size + 1) (stopB 0 0)) := Own.turn (by (repeat (first | with_reducible refine Own.drew ?_ | (with_reducible refine Own.last ?_ ?_; (focus (simp; done)); (focus omega)) | with_reducible refine Own.alloc ?_ _ | with_reducible refine Own.old ?_ u0 _ _ | with_reducible refine Own.other ?_ (by omega) _ _))) HH.out.hX HH.out.hU hT1; obtain ⟨Pa1, Pb1, Pc1, Pd1⟩ := HP1.out.stop; have Pl1 := HP1.out.lt; have l1 := HW1.out.lu; clear hT1)
  all_goals exact bodyPost_ret (v := (stVV 6 (sto m (w32 ((t.R 7 : Int) - 4)) 4))) (by simp [results, Try.results96, go_sem, u0, u1, u2, u3, u4, Pa1, Pb1, Pc1, Pd1, Pl1, l1]) rfl ⟨rfl, by
    have hB := HW1.out
    (repeat (first | with_reducible exact hB | with_reducible refine TuW.drew ?_ | with_reducible refine TuW.new ?_ (by omega) _ _ | with_reducible refine TuW.alloc ?_ _))⟩
set_option maxHeartbeats 1000000 in
theorem do15a (U X : Nat) (m : MS) (t : GS) (D S : Nat) (O : Int) (imm : Nat) (w : World) (H : TuW w w U X m t) (ht : t.Ok) (hi : imm < 4294967296) (hm : m.Ok) :
    Calls Try.prog 96 #[.pointer (some ⟨U, 0, none⟩), insA 15 7 S O imm] w fun e w' => e = .returned (stVV 5 (badN m 1 (t.R 7) 4)) ∧ TuW w w' U X m ((t.setR 7 (w32 ((t.R 7 : Int) + 4))).setR 7 (ldN m (t.R 7) 4)) := by
  have HH : Hid _ := H
  have HT : Hid _ := ht
  have u0 := H.hU
  have u1 : U < w.heap.size + 1 := by omega
  have u2 : U < w.heap.size + 1 + 1 := by omega
  have u3 : U < w.heap.size + 1 + 1 + 1 := by omega
  have u4 : U < w.heap.size + 1 + 1 + 1 + 1 := by omega
  have hp := ht.p
  have hf := ht.f
  have HM : Hid _ := hm
  clear hm
  clear H ht
  go_enter Try.func96, Try.ntmps96
  go_wp2_with (go_at_call 132; refine (pop15a U X m t D S O imm _ ?_ HT.out hi HM.out).mono ?_; (focus (exact TuW.here (w := w) (by have hB := HH.out; (repeat (first | with_reducible exact hB | with_reducible refine TuW.drew ?_ | with_reducible refine TuW.new ?_ (by omega) _ _ | with_reducible refine TuW.alloc ?_ _))))); rintro e w1 ⟨rfl, hT1⟩; have HW1 : Hid (TuW w w1 U X m ((t.setR 7 (w32 ((t.R 7 : Int) + 4))).setR 7 (ldN m (t.R 7) 4))) := TuW.from (m := m) (t := t) (by have hB := HH.out; (repeat (first | with_reducible exact hB | with_reducible refine TuW.drew ?_ | with_reducible refine TuW.new ?_ (by omega) _ _ | with_reducible refine TuW.alloc ?_ _))) hT1; have HP1 : Hid (Own w w1 (w.heap.size + 1) (stopB 0 0)) := Own.turn (by (repeat (first | with_reducible refine Own.drew ?_ | (with_reducible refine Own.last ?_ ?_; (focus (simp; done)); (focus omega)) | with_reducible refine Own.alloc ?_ _ | with_reducible refine Own.old ?_ u0 _ _ | with_reducible refine Own.other ?_ (by omega) _ _))) HH.out.hX HH.out.hU hT1; obtain ⟨Pa1, Pb1, Pc1, Pd1⟩ := HP1.out.stop; have Pl1 := HP1.out.lt; have l1 := HW1.out.lu; clear hT1)
  all_goals exact bodyPost_ret (v := (stVV 5 (badN m 1 (t.R 7) 4))) (by simp [results, Try.results96, go_sem, u0, u1, u2, u3, u4, Pa1, Pb1, Pc1, Pd1, Pl1, l1]) rfl ⟨rfl, by
    have hB := HW1.out
    (repeat (first | with_reducible exact hB | with_reducible refine TuW.drew ?_ | with_reducible refine TuW.new ?_ (by omega) _ _ | with_reducible refine TuW.alloc ?_ _))⟩
set_option maxHeartbeats 1000000 in
theorem do15b (U X : Nat) (m : MS) (t : GS) (D S : Nat) (O : Int) (imm : Nat) (w : World) (H : TuW w w U X m t) (ht : t.Ok) (hi : imm < 4294967296) (hD : D < 8) (hm : m.Ok) (hD7 : D < 7) :
    Calls Try.prog 96 #[.pointer (some ⟨U, 0, none⟩), insA 15 D S O imm] w fun e w' => e = .returned (stVV 5 (badN m 1 (t.R 7) 4)) ∧ TuW w w' U X m ((t.setR 7 (w32 ((t.R 7 : Int) + 4))).setR D (ldN m (t.R 7) 4)) := by
  have HH : Hid _ := H
  have HT : Hid _ := ht
  have u0 := H.hU
  have u1 : U < w.heap.size + 1 := by omega
  have u2 : U < w.heap.size + 1 + 1 := by omega
  have u3 : U < w.heap.size + 1 + 1 + 1 := by omega
  have u4 : U < w.heap.size + 1 + 1 + 1 + 1 := by omega
  have hp := ht.p
  have hf := ht.f
  have HM : Hid _ := hm
  clear hm
  clear H ht
  go_enter Try.func96, Try.ntmps96
  go_wp2_with (go_at_call 132; refine (pop15b U X m t D S O imm _ ?_ HT.out hi hD HM.out hD7).mono ?_; (focus (exact TuW.here (w := w) (by have hB := HH.out; (repeat (first | with_reducible exact hB | with_reducible refine TuW.drew ?_ | with_reducible refine TuW.new ?_ (by omega) _ _ | with_reducible refine TuW.alloc ?_ _))))); rintro e w1 ⟨rfl, hT1⟩; have HW1 : Hid (TuW w w1 U X m ((t.setR 7 (w32 ((t.R 7 : Int) + 4))).setR D (ldN m (t.R 7) 4))) := TuW.from (m := m) (t := t) (by have hB := HH.out; (repeat (first | with_reducible exact hB | with_reducible refine TuW.drew ?_ | with_reducible refine TuW.new ?_ (by omega) _ _ | with_reducible refine TuW.alloc ?_ _))) hT1; have HP1 : Hid (Own w w1 (w.heap.size + 1) (stopB 0 0)) := Own.turn (by (repeat (first | with_reducible refine Own.drew ?_ | (with_reducible refine Own.last ?_ ?_; (focus (simp; done)); (focus omega)) | with_reducible refine Own.alloc ?_ _ | with_reducible refine Own.old ?_ u0 _ _ | with_reducible refine Own.other ?_ (by omega) _ _))) HH.out.hX HH.out.hU hT1; obtain ⟨Pa1, Pb1, Pc1, Pd1⟩ := HP1.out.stop; have Pl1 := HP1.out.lt; have l1 := HW1.out.lu; clear hT1)
  all_goals exact bodyPost_ret (v := (stVV 5 (badN m 1 (t.R 7) 4))) (by simp [results, Try.results96, go_sem, u0, u1, u2, u3, u4, Pa1, Pb1, Pc1, Pd1, Pl1, l1]) rfl ⟨rfl, by
    have hB := HW1.out
    (repeat (first | with_reducible exact hB | with_reducible refine TuW.drew ?_ | with_reducible refine TuW.new ?_ (by omega) _ _ | with_reducible refine TuW.alloc ?_ _))⟩
set_option maxHeartbeats 1000000 in
theorem do4 (U X : Nat) (m : MS) (t : GS) (D S : Nat) (O : Int) (imm : Nat) (w : World) (H : TuW w w U X m t) (ht : t.Ok) (hi : imm < 4294967296) (hm : m.Ok) :
    Calls Try.prog 96 #[.pointer (some ⟨U, 0, none⟩), insA 4 D S O imm] w fun e w' => e = .returned (stVV 5 (badN m 1 (t.R 7) 4)) ∧ TuW w w' U X m ((t.setR 7 (w32 ((t.R 7 : Int) + 4))).setF ((ldN m (t.R 7) 4) % 16)) := by
  have HH : Hid _ := H
  have HT : Hid _ := ht
  have u0 := H.hU
  have u1 : U < w.heap.size + 1 := by omega
  have u2 : U < w.heap.size + 1 + 1 := by omega
  have u3 : U < w.heap.size + 1 + 1 + 1 := by omega
  have u4 : U < w.heap.size + 1 + 1 + 1 + 1 := by omega
  have hp := ht.p
  have hf := ht.f
  have HM : Hid _ := hm
  clear hm
  clear H ht
  go_enter Try.func96, Try.ntmps96
  go_wp2_with (go_at_call 132; refine (pop4 U X m t D S O imm _ ?_ HT.out hi HM.out).mono ?_; (focus (exact TuW.here (w := w) (by have hB := HH.out; (repeat (first | with_reducible exact hB | with_reducible refine TuW.drew ?_ | with_reducible refine TuW.new ?_ (by omega) _ _ | with_reducible refine TuW.alloc ?_ _))))); rintro e w1 ⟨rfl, hT1⟩; have HW1 : Hid (TuW w w1 U X m ((t.setR 7 (w32 ((t.R 7 : Int) + 4))).setF ((ldN m (t.R 7) 4) % 16))) := TuW.from (m := m) (t := t) (by have hB := HH.out; (repeat (first | with_reducible exact hB | with_reducible refine TuW.drew ?_ | with_reducible refine TuW.new ?_ (by omega) _ _ | with_reducible refine TuW.alloc ?_ _))) hT1; have HP1 : Hid (Own w w1 (w.heap.size + 1) (stopB 0 0)) := Own.turn (by (repeat (first | with_reducible refine Own.drew ?_ | (with_reducible refine Own.last ?_ ?_; (focus (simp; done)); (focus omega)) | with_reducible refine Own.alloc ?_ _ | with_reducible refine Own.old ?_ u0 _ _ | with_reducible refine Own.other ?_ (by omega) _ _))) HH.out.hX HH.out.hU hT1; obtain ⟨Pa1, Pb1, Pc1, Pd1⟩ := HP1.out.stop; have Pl1 := HP1.out.lt; have l1 := HW1.out.lu; clear hT1)
  all_goals exact bodyPost_ret (v := (stVV 5 (badN m 1 (t.R 7) 4))) (by simp [results, Try.results96, go_sem, u0, u1, u2, u3, u4, Pa1, Pb1, Pc1, Pd1, Pl1, l1]) rfl ⟨rfl, by
    have hB := HW1.out
    (repeat (first | with_reducible exact hB | with_reducible refine TuW.drew ?_ | with_reducible refine TuW.new ?_ (by omega) _ _ | with_reducible refine TuW.alloc ?_ _))⟩
set_option maxHeartbeats 1000000 in
theorem do2 (U X : Nat) (m : MS) (t : GS) (D S : Nat) (O : Int) (imm : Nat) (w : World) (H : TuW w w U X m t) (ht : t.Ok) (hi : imm < 4294967296) (hm : m.Ok) :
    Calls Try.prog 96 #[.pointer (some ⟨U, 0, none⟩), insA 2 D S O imm] w fun e w' => e = .returned (stVV 5 (badN m 1 (t.R 7) 4)) ∧ TuW w w' U X m ((t.setR 7 (w32 ((t.R 7 : Int) + 4))).setPC (ldN m (t.R 7) 4)) := by
  have HH : Hid _ := H
  have HT : Hid _ := ht
  have u0 := H.hU
  have u1 : U < w.heap.size + 1 := by omega
  have u2 : U < w.heap.size + 1 + 1 := by omega
  have u3 : U < w.heap.size + 1 + 1 + 1 := by omega
  have u4 : U < w.heap.size + 1 + 1 + 1 + 1 := by omega
  have hp := ht.p
  have hf := ht.f
  have HM : Hid _ := hm
  clear hm
  clear H ht
  go_enter Try.func96, Try.ntmps96
  go_wp2_with (go_at_call 132; refine (pop2 U X m t D S O imm _ ?_ HT.out hi HM.out).mono ?_; (focus (exact TuW.here (w := w) (by have hB := HH.out; (repeat (first | with_reducible exact hB | with_reducible refine TuW.drew ?_ | with_reducible refine TuW.new ?_ (by omega) _ _ | with_reducible refine TuW.alloc ?_ _))))); rintro e w1 ⟨rfl, hT1⟩; have HW1 : Hid (TuW w w1 U X m ((t.setR 7 (w32 ((t.R 7 : Int) + 4))).setPC (ldN m (t.R 7) 4))) := TuW.from (m := m) (t := t) (by have hB := HH.out; (repeat (first | with_reducible exact hB | with_reducible refine TuW.drew ?_ | with_reducible refine TuW.new ?_ (by omega) _ _ | with_reducible refine TuW.alloc ?_ _))) hT1; have HP1 : Hid (Own w w1 (w.heap.size + 1) (stopB 0 0)) := Own.turn (by (repeat (first | with_reducible refine Own.drew ?_ | (with_reducible refine Own.last ?_ ?_; (focus (simp; done)); (focus omega)) | with_reducible refine Own.alloc ?_ _ | with_reducible refine Own.old ?_ u0 _ _ | with_reducible refine Own.other ?_ (by omega) _ _))) HH.out.hX HH.out.hU hT1; obtain ⟨Pa1, Pb1, Pc1, Pd1⟩ := HP1.out.stop; have Pl1 := HP1.out.lt; have l1 := HW1.out.lu; clear hT1)
  all_goals exact bodyPost_ret (v := (stVV 5 (badN m 1 (t.R 7) 4))) (by simp [results, Try.results96, go_sem, u0, u1, u2, u3, u4, Pa1, Pb1, Pc1, Pd1, Pl1, l1]) rfl ⟨rfl, by
    have hB := HW1.out
    (repeat (first | with_reducible exact hB | with_reducible refine TuW.drew ?_ | with_reducible refine TuW.new ?_ (by omega) _ _ | with_reducible refine TuW.alloc ?_ _))⟩
end Go.Proofs.Ytkgbjpdoigdjnaa

namespace Go.Proofs.Ytkgbjpdoigdjnaa
open Go.RowKit
set_option maxRecDepth 100000
set_option linter.unusedVariables false
set_option linter.unusedSimpArgs false

set_option maxHeartbeats 1000000 in
theorem do0 (U X : Nat) (m : MS) (t : GS) (D S : Nat) (O : Int) (imm : Nat) (w : World) (H : TuW w w U X m t) (ht : t.Ok) (hi : imm < 4294967296) (hD : D < 8) :
    Calls Try.prog 96 #[.pointer (some ⟨U, 0, none⟩), insA 0 D S O imm] w fun e w' => e = .returned stop0 ∧ TuW w w' U X m t := by
  have HH : Hid _ := H
  have HT : Hid _ := ht
  have u0 := H.hU
  have u1 : U < w.heap.size + 1 := by omega
  have u2 : U < w.heap.size + 1 + 1 := by omega
  have u3 : U < w.heap.size + 1 + 1 + 1 := by omega
  have u4 : U < w.heap.size + 1 + 1 + 1 + 1 := by omega
  have hp := ht.p
  have hf := ht.f
  clear H ht
  go_enter Try.func96, Try.ntmps96
  go_wp2_with (go_at_call 137; refine (set0 U X m t D S O imm _ ?_ HT.out hi hD).mono ?_; (focus (exact TuW.here (w := w) (by have hB := HH.out; (repeat (first | with_reducible exact hB | with_reducible refine TuW.drew ?_ | with_reducible refine TuW.new ?_ (by omega) _ _ | with_reducible refine TuW.alloc ?_ _))))); rintro e w1 ⟨rfl, hT1⟩; have HW1 : Hid (TuW w w1 U X m t) := TuW.from (m := m) (t := t) (by have hB := HH.out; (repeat (first | with_reducible exact hB | with_reducible refine TuW.drew ?_ | with_reducible refine TuW.new ?_ (by omega) _ _ | with_reducible refine TuW.alloc ?_ _))) hT1; have HP1 : Hid (Own w w1 (w.heap.size + 1) (stopB 0 0)) := Own.turn (by (repeat (first | with_reducible refine Own.drew ?_ | (with_reducible refine Own.last ?_ ?_; (focus (simp; done)); (focus omega)) | with_reducible refine Own.alloc ?_ _ | with_reducible refine Own.old ?_ u0 _ _ | with_reducible refine Own.other ?_ (by omega) _ _))) HH.out.hX HH.out.hU hT1; obtain ⟨Pa1, Pb1, Pc1, Pd1⟩ := HP1.out.stop; have Pl1 := HP1.out.lt; have l1 := HW1.out.lu; clear hT1)
  all_goals exact bodyPost_ret (v := stop0) (by simp [results, Try.results96, go_sem, u0, u1, u2, u3, u4, Pa1, Pb1, Pc1, Pd1, Pl1, l1]) rfl ⟨rfl, by
    have hB := HW1.out
    (repeat (first | with_reducible exact hB | with_reducible refine TuW.drew ?_ | with_reducible refine TuW.new ?_ (by omega) _ _ | with_reducible refine TuW.alloc ?_ _))⟩
set_option maxHeartbeats 1000000 in
theorem do16 (U X : Nat) (m : MS) (t : GS) (D S : Nat) (O : Int) (imm : Nat) (w : World) (H : TuW w w U X m t) (ht : t.Ok) (hi : imm < 4294967296) (hD : D < 8) :
    Calls Try.prog 96 #[.pointer (some ⟨U, 0, none⟩), insA 16 D S O imm] w fun e w' => e = .returned stop0 ∧ TuW w w' U X m (t.setR D imm) := by
  have HH : Hid _ := H
  have HT : Hid _ := ht
  have u0 := H.hU
  have u1 : U < w.heap.size + 1 := by omega
  have u2 : U < w.heap.size + 1 + 1 := by omega
  have u3 : U < w.heap.size + 1 + 1 + 1 := by omega
  have u4 : U < w.heap.size + 1 + 1 + 1 + 1 := by omega
  have hp := ht.p
  have hf := ht.f
  clear H ht
  go_enter Try.func96, Try.ntmps96
  go_wp2_with (go_at_call 137; refine (set16 U X m t D S O imm _ ?_ HT.out hi hD).mono ?_; (focus (exact TuW.here (w := w) (by have hB := HH.out; (repeat (first | with_reducible exact hB | with_reducible refine TuW.drew ?_ | with_reducible refine TuW.new ?_ (by omega) _ _ | with_reducible refine TuW.alloc ?_ _))))); rintro e w1 ⟨rfl, hT1⟩; have HW1 : Hid (TuW w w1 U X m (t.setR D imm)) := TuW.from (m := m) (t := t) (by have hB := HH.out; (repeat (first | with_reducible exact hB | with_reducible refine TuW.drew ?_ | with_reducible refine TuW.new ?_ (by omega) _ _ | with_reducible refine TuW.alloc ?_ _))) hT1; have HP1 : Hid (Own w w1 (w.heap.size + 1) (stopB 0 0)) := Own.turn (by (repeat (first | with_reducible refine Own.drew ?_ | (with_reducible refine Own.last ?_ ?_; (focus (simp; done)); (focus omega)) | with_reducible refine Own.alloc ?_ _ | with_reducible refine Own.old ?_ u0 _ _ | with_reducible refine Own.other ?_ (by omega) _ _))) HH.out.hX HH.out.hU hT1; obtain ⟨Pa1, Pb1, Pc1, Pd1⟩ := HP1.out.stop; have Pl1 := HP1.out.lt; have l1 := HW1.out.lu; clear hT1)
  all_goals exact bodyPost_ret (v := stop0) (by simp [results, Try.results96, go_sem, u0, u1, u2, u3, u4, Pa1, Pb1, Pc1, Pd1, Pl1, l1]) rfl ⟨rfl, by
    have hB := HW1.out
    (repeat (first | with_reducible exact hB | with_reducible refine TuW.drew ?_ | with_reducible refine TuW.new ?_ (by omega) _ _ | with_reducible refine TuW.alloc ?_ _))⟩
set_option maxHeartbeats 1000000 in
theorem do22 (U X : Nat) (m : MS) (t : GS) (D S : Nat) (O : Int) (imm : Nat) (w : World) (H : TuW w w U X m t) (ht : t.Ok) (hi : imm < 4294967296) (hS : S < 8) (hD : D < 8) :
    Calls Try.prog 96 #[.pointer (some ⟨U, 0, none⟩), insA 22 D S O imm] w fun e w' => e = .returned stop0 ∧ TuW w w' U X m (t.setR D (t.R S)) := by
  have HH : Hid _ := H
  have HT : Hid _ := ht
  have u0 := H.hU
  have u1 : U < w.heap.size + 1 := by omega
  have u2 : U < w.heap.size + 1 + 1 := by omega
  have u3 : U < w.heap.size + 1 + 1 + 1 := by omega
  have u4 : U < w.heap.size + 1 + 1 + 1 + 1 := by omega
  have hp := ht.p
  have hf := ht.f
  clear H ht
  go_enter Try.func96, Try.ntmps96
  go_wp2_with (go_at_call 137; refine (set22 U X m t D S O imm _ ?_ HT.out hi hS hD).mono ?_; (focus (exact TuW.here (w := w) (by have hB := HH.out; (repeat (first | with_reducible exact hB | with_reducible refine TuW.drew ?_ | with_reducible refine TuW.new ?_ (by omega) _ _ | with_reducible refine TuW.alloc ?_ _))))); rintro e w1 ⟨rfl, hT1⟩; have HW1 : Hid (TuW w w1 U X m (t.setR D (t.R S))) := TuW.from (m := m) (t := t) (by have hB := HH.out; (repeat (first | with_reducible exact hB | with_reducible refine TuW.drew ?_ | with_reducible refine TuW.new ?_ (by omega) _ _ | with_reducible refine TuW.alloc ?_ _))) hT1; have HP1 : Hid (Own w w1 (w.heap.size + 1) (stopB 0 0)) := Own.turn (by (repeat (first | with_reducible refine Own.drew ?_ | (with_reducible refine Own.last ?_ ?_; (focus (simp; done)); (focus omega)) | with_reducible refine Own.alloc ?_ _ | with_reducible refine Own.old ?_ u0 _ _ | with_reducible refine Own.other ?_ (by omega) _ _))) HH.out.hX HH.out.hU hT1; obtain ⟨Pa1, Pb1, Pc1, Pd1⟩ := HP1.out.stop; have Pl1 := HP1.out.lt; have l1 := HW1.out.lu; clear hT1)
  all_goals exact bodyPost_ret (v := stop0) (by simp [results, Try.results96, go_sem, u0, u1, u2, u3, u4, Pa1, Pb1, Pc1, Pd1, Pl1, l1]) rfl ⟨rfl, by
    have hB := HW1.out
    (repeat (first | with_reducible exact hB | with_reducible refine TuW.drew ?_ | with_reducible refine TuW.new ?_ (by omega) _ _ | with_reducible refine TuW.alloc ?_ _))⟩
set_option maxHeartbeats 1000000 in
theorem do23 (U X : Nat) (m : MS) (t : GS) (D S : Nat) (O : Int) (imm : Nat) (w : World) (H : TuW w w U X m t) (ht : t.Ok) (hi : imm < 4294967296) (hS : S < 8) (hD : D < 8) :
    Calls Try.prog 96 #[.pointer (some ⟨U, 0, none⟩), insA 23 D S O imm] w fun e w' => e = .returned stop0 ∧ TuW w w' U X m (t.setR D (w32 ((t.R S : Int) + imm))) := by
  have HH : Hid _ := H
  have HT : Hid _ := ht
  have u0 := H.hU
  have u1 : U < w.heap.size + 1 := by omega
  have u2 : U < w.heap.size + 1 + 1 := by omega
  have u3 : U < w.heap.size + 1 + 1 + 1 := by omega
  have u4 : U < w.heap.size + 1 + 1 + 1 + 1 := by omega
  have hp := ht.p
  have hf := ht.f
  clear H ht
  go_enter Try.func96, Try.ntmps96
  go_wp2_with (go_at_call 137; refine (set23 U X m t D S O imm _ ?_ HT.out hi hS hD).mono ?_; (focus (exact TuW.here (w := w) (by have hB := HH.out; (repeat (first | with_reducible exact hB | with_reducible refine TuW.drew ?_ | with_reducible refine TuW.new ?_ (by omega) _ _ | with_reducible refine TuW.alloc ?_ _))))); rintro e w1 ⟨rfl, hT1⟩; have HW1 : Hid (TuW w w1 U X m (t.setR D (w32 ((t.R S : Int) + imm)))) := TuW.from (m := m) (t := t) (by have hB := HH.out; (repeat (first | with_reducible exact hB | with_reducible refine TuW.drew ?_ | with_reducible refine TuW.new ?_ (by omega) _ _ | with_reducible refine TuW.alloc ?_ _))) hT1; have HP1 : Hid (Own w w1 (w.heap.size + 1) (stopB 0 0)) := Own.turn (by (repeat (first | with_reducible refine Own.drew ?_ | (with_reducible refine Own.last ?_ ?_; (focus (simp; done)); (focus omega)) | with_reducible refine Own.alloc ?_ _ | with_reducible refine Own.old ?_ u0 _ _ | with_reducible refine Own.other ?_ (by omega) _ _))) HH.out.hX HH.out.hU hT1; obtain ⟨Pa1, Pb1, Pc1, Pd1⟩ := HP1.out.stop; have Pl1 := HP1.out.lt; have l1 := HW1.out.lu; clear hT1)
  all_goals exact bodyPost_ret (v := stop0) (by simp [results, Try.results96, go_sem, u0, u1, u2, u3, u4, Pa1, Pb1, Pc1, Pd1, Pl1, l1]) rfl ⟨rfl, by
    have hB := HW1.out
    (repeat (first | with_reducible exact hB | with_reducible refine TuW.drew ?_ | with_reducible refine TuW.new ?_ (by omega) _ _ | with_reducible refine TuW.alloc ?_ _))⟩
set_option maxHeartbeats 1000000 in
theorem do20 (U X : Nat) (m : MS) (t : GS) (D S : Nat) (O : Int) (imm : Nat) (w : World) (H : TuW w w U X m t) (ht : t.Ok) (hi : imm < 4294967296) (hD : D < 8) :
    Calls Try.prog 96 #[.pointer (some ⟨U, 0, none⟩), insA 20 D S O imm] w fun e w' => e = .returned stop0 ∧ TuW w w' U X m (t.setR D (w32 (4294967295 - (t.R D : Int)))) := by
  have HH : Hid _ := H
  have HT : Hid _ := ht
  have u0 := H.hU
  have u1 : U < w.heap.size + 1 := by omega
  have u2 : U < w.heap.size + 1 + 1 := by omega
  have u3 : U < w.heap.size + 1 + 1 + 1 := by omega
  have u4 : U < w.heap.size + 1 + 1 + 1 + 1 := by omega
  have hp := ht.p
  have hf := ht.f
  clear H ht
  go_enter Try.func96, Try.ntmps96
  go_wp2_with (go_at_call 137; refine (set20 U X m t D S O imm _ ?_ HT.out hi hD).mono ?_; (focus (exact TuW.here (w := w) (by have hB := HH.out; (repeat (first | with_reducible exact hB | with_reducible refine TuW.drew ?_ | with_reducible refine TuW.new ?_ (by omega) _ _ | with_reducible refine TuW.alloc ?_ _))))); rintro e w1 ⟨rfl, hT1⟩; have HW1 : Hid (TuW w w1 U X m (t.setR D (w32 (4294967295 - (t.R D : Int))))) := TuW.from (m := m) (t := t) (by have hB := HH.out; (repeat (first | with_reducible exact hB | with_reducible refine TuW.drew ?_ | with_reducible refine TuW.new ?_ (by omega) _ _ | with_reducible refine TuW.alloc ?_ _))) hT1; have HP1 : Hid (Own w w1 (w.heap.size + 1) (stopB 0 0)) := Own.turn (by (repeat (first | with_reducible refine Own.drew ?_ | (with_reducible refine Own.last ?_ ?_; (focus (simp; done)); (focus omega)) | with_reducible refine Own.alloc ?_ _ | with_reducible refine Own.old ?_ u0 _ _ | with_reducible refine Own.other ?_ (by omega) _ _))) HH.out.hX HH.out.hU hT1; obtain ⟨Pa1, Pb1, Pc1, Pd1⟩ := HP1.out.stop; have Pl1 := HP1.out.lt; have l1 := HW1.out.lu; clear hT1)
  all_goals exact bodyPost_ret (v := stop0) (by simp [results, Try.results96, go_sem, u0, u1, u2, u3, u4, Pa1, Pb1, Pc1, Pd1, Pl1, l1]) rfl ⟨rfl, by
    have hB := HW1.out
    (repeat (first | with_reducible exact hB | with_reducible refine TuW.drew ?_ | with_reducible refine TuW.new ?_ (by omega) _ _ | with_reducible refine TuW.alloc ?_ _))⟩
set_option maxHeartbeats 1000000 in
theorem do17 (U X : Nat) (m : MS) (t : GS) (D S : Nat) (O : Int) (imm : Nat) (w : World) (H : TuW w w U X m t) (ht : t.Ok) (hi : imm < 4294967296) (hD : D < 8) :
    Calls Try.prog 96 #[.pointer (some ⟨U, 0, none⟩), insA 17 D S O imm] w fun e w' => e = .returned stop0 ∧ TuW w w' U X m ((t.setR D (w32 ((t.R D : Int) + 1))).setF (Fl.flagsF 11 (t.R D) 0 t.f).toNat) := by
  have HH : Hid _ := H
  have HT : Hid _ := ht
  have u0 := H.hU
  have u1 : U < w.heap.size + 1 := by omega
  have u2 : U < w.heap.size + 1 + 1 := by omega
  have u3 : U < w.heap.size + 1 + 1 + 1 := by omega
  have u4 : U < w.heap.size + 1 + 1 + 1 + 1 := by omega
  have hp := ht.p
  have hf := ht.f
  clear H ht
  go_enter Try.func96, Try.ntmps96
  go_wp2_with (go_at_call 137; refine (set17 U X m t D S O imm _ ?_ HT.out hi hD).mono ?_; (focus (exact TuW.here (w := w) (by have hB := HH.out; (repeat (first | with_reducible exact hB | with_reducible refine TuW.drew ?_ | with_reducible refine TuW.new ?_ (by omega) _ _ | with_reducible refine TuW.alloc ?_ _))))); rintro e w1 ⟨rfl, hT1⟩; have HW1 : Hid (TuW w w1 U X m ((t.setR D (w32 ((t.R D : Int) + 1))).setF (Fl.flagsF 11 (t.R D) 0 t.f).toNat)) := TuW.from (m := m) (t := t) (by have hB := HH.out; (repeat (first | with_reducible exact hB | with_reducible refine TuW.drew ?_ | with_reducible refine TuW.new ?_ (by omega) _ _ | with_reducible refine TuW.alloc ?_ _))) hT1; have HP1 : Hid (Own w w1 (w.heap.size + 1) (stopB 0 0)) := Own.turn (by (repeat (first | with_reducible refine Own.drew ?_ | (with_reducible refine Own.last ?_ ?_; (focus (simp; done)); (focus omega)) | with_reducible refine Own.alloc ?_ _ | with_reducible refine Own.old ?_ u0 _ _ | with_reducible refine Own.other ?_ (by omega) _ _))) HH.out.hX HH.out.hU hT1; obtain ⟨Pa1, Pb1, Pc1, Pd1⟩ := HP1.out.stop; have Pl1 := HP1.out.lt; have l1 := HW1.out.lu; clear hT1)
  all_goals exact bodyPost_ret (v := stop0) (by simp [results, Try.results96, go_sem, u0, u1, u2, u3, u4, Pa1, Pb1, Pc1, Pd1, Pl1, l1]) rfl ⟨rfl, by
    have hB := HW1.out
    (repeat (first | with_reducible exact hB | with_reducible refine TuW.drew ?_ | with_reducible refine TuW.new ?_ (by omega) _ _ | with_reducible refine TuW.alloc ?_ _))⟩
set_option maxHeartbeats 1000000 in
theorem do18 (U X : Nat) (m : MS) (t : GS) (D S : Nat) (O : Int) (imm : Nat) (w : World) (H : TuW w w U X m t) (ht : t.Ok) (hi : imm < 4294967296) (hD : D < 8) :
    Calls Try.prog 96 #[.pointer (some ⟨U, 0, none⟩), insA 18 D S O imm] w fun e w' => e = .returned stop0 ∧ TuW w w' U X m ((t.setR D (w32 ((t.R D : Int) - 1))).setF (Fl.flagsF 12 (t.R D) 0 t.f).toNat) := by
  have HH : Hid _ := H
  have HT : Hid _ := ht
  have u0 := H.hU
  have u1 : U < w.heap.size + 1 := by omega
  have u2 : U < w.heap.size + 1 + 1 := by omega
  have u3 : U < w.heap.size + 1 + 1 + 1 := by omega
  have u4 : U < w.heap.size + 1 + 1 + 1 + 1 := by omega
  have hp := ht.p
  have hf := ht.f
  clear H ht
  go_enter Try.func96, Try.ntmps96
  go_wp2_with (go_at_call 137; refine (set18 U X m t D S O imm _ ?_ HT.out hi hD).mono ?_; (focus (exact TuW.here (w := w) (by have hB := HH.out; (repeat (first | with_reducible exact hB | with_reducible refine TuW.drew ?_ | with_reducible refine TuW.new ?_ (by omega) _ _ | with_reducible refine TuW.alloc ?_ _))))); rintro e w1 ⟨rfl, hT1⟩; have HW1 : Hid (TuW w w1 U X m ((t.setR D (w32 ((t.R D : Int) - 1))).setF (Fl.flagsF 12 (t.R D) 0 t.f).toNat)) := TuW.from (m := m) (t := t) (by have hB := HH.out; (repeat (first | with_reducible exact hB | with_reducible refine TuW.drew ?_ | with_reducible refine TuW.new ?_ (by omega) _ _ | with_reducible refine TuW.alloc ?_ _))) hT1; have HP1 : Hid (Own w w1 (w.heap.size + 1) (stopB 0 0)) := Own.turn (by (repeat (first | with_reducible refine Own.drew ?_ | (with_reducible refine Own.last ?_ ?_; (focus (simp; done)); (focus omega)) | with_reducible refine Own.alloc ?_ _ | with_reducible refine Own.old ?_ u0 _ _ | with_reducible refine Own.other ?_ (by omega) _ _))) HH.out.hX HH.out.hU hT1; obtain ⟨Pa1, Pb1, Pc1, Pd1⟩ := HP1.out.stop; have Pl1 := HP1.out.lt; have l1 := HW1.out.lu; clear hT1)
  all_goals exact bodyPost_ret (v := stop0) (by simp [results, Try.results96, go_sem, u0, u1, u2, u3, u4, Pa1, Pb1, Pc1, Pd1, Pl1, l1]) rfl ⟨rfl, by
    have hB := HW1.out
    (repeat (first | with_reducible exact hB | with_reducible refine TuW.drew ?_ | with_reducible refine TuW.new ?_ (by omega) _ _ | with_reducible refine TuW.alloc ?_ _))⟩
set_option maxHeartbeats 1000000 in
theorem do19 (U X : Nat) (m : MS) (t : GS) (D S : Nat) (O : Int) (imm : Nat) (w : World) (H : TuW w w U X m t) (ht : t.Ok) (hi : imm < 4294967296) (hD : D < 8) :
    Calls Try.prog 96 #[.pointer (some ⟨U, 0, none⟩), insA 19 D S O imm] w fun e w' => e = .returned stop0 ∧ TuW w w' U X m ((t.setR D (w32 (0 - (t.R D : Int)))).setF (Fl.flagsF 3 0 (t.R D) t.f).toNat) := by
  have HH : Hid _ := H
  have HT : Hid _ := ht
  have u0 := H.hU
  have u1 : U < w.heap.size + 1 := by omega
  have u2 : U < w.heap.size + 1 + 1 := by omega
  have u3 : U < w.heap.size + 1 + 1 + 1 := by omega
  have u4 : U < w.heap.size + 1 + 1 + 1 + 1 := by omega
  have hp := ht.p
  have hf := ht.f
  clear H ht
  go_enter Try.func96, Try.ntmps96
  go_wp2_with (go_at_call 137; refine (set19 U X m t D S O imm _ ?_ HT.out hi hD).mono ?_; (focus (exact TuW.here (w := w) (by have hB := HH.out; (repeat (first | with_reducible exact hB | with_reducible refine TuW.drew ?_ | with_reducible refine TuW.new ?_ (by omega) _ _ | with_reducible refine TuW.alloc ?_ _))))); rintro e w1 ⟨rfl, hT1⟩; have HW1 : Hid (TuW w w1 U X m ((t.setR D (w32 (0 - (t.R D : Int)))).setF (Fl.flagsF 3 0 (t.R D) t.f).toNat)) := TuW.from (m := m) (t := t) (by have hB := HH.out; (repeat (first | with_reducible exact hB | with_reducible refine TuW.drew ?_ | with_reducible refine TuW.new ?_ (by omega) _ _ | with_reducible refine TuW.alloc ?_ _))) hT1; have HP1 : Hid (Own w w1 (w.heap.size + 1) (stopB 0 0)) := Own.turn (by (repeat (first | with_reducible refine Own.drew ?_ | (with_reducible refine Own.last ?_ ?_; (focus (simp; done)); (focus omega)) | with_reducible refine Own.alloc ?_ _ | with_reducible refine Own.old ?_ u0 _ _ | with_reducible refine Own.other ?_ (by omega) _ _))) HH.out.hX HH.out.hU hT1; obtain ⟨Pa1, Pb1, Pc1, Pd1⟩ := HP1.out.stop; have Pl1 := HP1.out.lt; have l1 := HW1.out.lu; clear hT1)
  all_goals exact bodyPost_ret (v := stop0) (by simp [results, Try.results96, go_sem, u0, u1, u2, u3, u4, Pa1, Pb1, Pc1, Pd1, Pl1, l1]) rfl ⟨rfl, by
    have hB := HW1.out
    (repeat (first | with_reducible exact hB | with_reducible refine TuW.drew ?_ | with_reducible refine TuW.new ?_ (by omega) _ _ | with_reducible refine TuW.alloc ?_ _))⟩
set_option maxHeartbeats 1000000 in
theorem do21t (U X : Nat) (m : MS) (t : GS) (D S : Nat) (O : Int) (imm : Nat) (w : World) (H : TuW w w U X m t) (ht : t.Ok) (hi : imm < 4294967296) (hD : D < 8) (hO : O ≤ 9223372036854775807) (hb : Fl.holdsF O t.f = true) :
    Calls Try.prog 96 #[.pointer (some ⟨U, 0, none⟩), insA 21 D S O imm] w fun e w' => e = .returned stop0 ∧ TuW w w' U X m (t.setR D 1) := by
  have HH : Hid _ := H
  have HT : Hid _ := ht
  have u0 := H.hU
  have u1 : U < w.heap.size + 1 := by omega
  have u2 : U < w.heap.size + 1 + 1 := by omega
  have u3 : U < w.heap.size + 1 + 1 + 1 := by omega
  have u4 : U < w.heap.size + 1 + 1 + 1 + 1 := by omega
  have hp := ht.p
  have hf := ht.f
  have HB : Hid _ := hb
  clear hb
  clear H ht
  go_enter Try.func96, Try.ntmps96
  go_wp2_with (go_at_call 137; refine (set21t U X m t D S O imm _ ?_ HT.out hi hD hO HB.out).mono ?_; (focus (exact TuW.here (w := w) (by have hB := HH.out; (repeat (first | with_reducible exact hB | with_reducible refine TuW.drew ?_ | with_reducible refine TuW.new ?_ (by omega) _ _ | with_reducible refine TuW.alloc ?_ _))))); rintro e w1 ⟨rfl, hT1⟩; have HW1 : Hid (TuW w w1 U X m (t.setR D 1)) := TuW.from (m := m) (t := t) (by have hB := HH.out; (repeat (first | with_reducible exact hB | with_reducible refine TuW.drew ?_ | with_reducible refine TuW.new ?_ (by omega) _ _ | with_reducible refine TuW.alloc ?_ _))) hT1; have HP1 : Hid (Own w w1 (w.heap.size + 1) (stopB 0 0)) := Own.turn (by (repeat (first | with_reducible refine Own.drew ?_ | (with_reducible refine Own.last ?_ ?_; (focus (simp; done)); (focus omega)) | with_reducible refine Own.alloc ?_ _ | with_reducible refine Own.old ?_ u0 _ _ | with_reducible refine Own.other ?_ (by omega) _ _))) HH.out.hX HH.out.hU hT1; obtain ⟨Pa1, Pb1, Pc1, Pd1⟩ := HP1.out.stop; have Pl1 := HP1.out.lt; have l1 := HW1.out.lu; clear hT1)
  all_goals exact bodyPost_ret (v := stop0) (by simp [results, Try.results96, go_sem, u0, u1, u2, u3, u4, Pa1, Pb1, Pc1, Pd1, Pl1, l1]) rfl ⟨rfl, by
    have hB := HW1.out
    (repeat (first | with_reducible exact hB | with_reducible refine TuW.drew ?_ | with_reducible refine TuW.new ?_ (by omega) _ _ | with_reducible refine TuW.alloc ?_ _))⟩
set_option maxHeartbeats 1000000 in
theorem do21f (U X : Nat) (m : MS) (t : GS) (D S : Nat) (O : Int) (imm : Nat) (w : World) (H : TuW w w U X m t) (ht : t.Ok) (hi : imm < 4294967296) (hD : D < 8) (hO : O ≤ 9223372036854775807) (hb : Fl.holdsF O t.f = false) :
    Calls Try.prog 96 #[.pointer (some ⟨U, 0, none⟩), insA 21 D S O imm] w fun e w' => e = .returned stop0 ∧ TuW w w' U X m (t.setR D 0) := by
  have HH : Hid _ := H
  have HT : Hid _ := ht
  have u0 := H.hU
  have u1 : U < w.heap.size + 1 := by omega
  have u2 : U < w.heap.size + 1 + 1 := by omega
  have u3 : U < w.heap.size + 1 + 1 + 1 := by omega
  have u4 : U < w.heap.size + 1 + 1 + 1 + 1 := by omega
  have hp := ht.p
  have hf := ht.f
  have HB : Hid _ := hb
  clear hb
  clear H ht
  go_enter Try.func96, Try.ntmps96
  go_wp2_with (go_at_call 137; refine (set21f U X m t D S O imm _ ?_ HT.out hi hD hO HB.out).mono ?_; (focus (exact TuW.here (w := w) (by have hB := HH.out; (repeat (first | with_reducible exact hB | with_reducible refine TuW.drew ?_ | with_reducible refine TuW.new ?_ (by omega) _ _ | with_reducible refine TuW.alloc ?_ _))))); rintro e w1 ⟨rfl, hT1⟩; have HW1 : Hid (TuW w w1 U X m (t.setR D 0)) := TuW.from (m := m) (t := t) (by have hB := HH.out; (repeat (first | with_reducible exact hB | with_reducible refine TuW.drew ?_ | with_reducible refine TuW.new ?_ (by omega) _ _ | with_reducible refine TuW.alloc ?_ _))) hT1; have HP1 : Hid (Own w w1 (w.heap.size + 1) (stopB 0 0)) := Own.turn (by (repeat (first | with_reducible refine Own.drew ?_ | (with_reducible refine Own.last ?_ ?_; (focus (simp; done)); (focus omega)) | with_reducible refine Own.alloc ?_ _ | with_reducible refine Own.old ?_ u0 _ _ | with_reducible refine Own.other ?_ (by omega) _ _))) HH.out.hX HH.out.hU hT1; obtain ⟨Pa1, Pb1, Pc1, Pd1⟩ := HP1.out.stop; have Pl1 := HP1.out.lt; have l1 := HW1.out.lu; clear hT1)
  all_goals exact bodyPost_ret (v := stop0) (by simp [results, Try.results96, go_sem, u0, u1, u2, u3, u4, Pa1, Pb1, Pc1, Pd1, Pl1, l1]) rfl ⟨rfl, by
    have hB := HW1.out
    (repeat (first | with_reducible exact hB | with_reducible refine TuW.drew ?_ | with_reducible refine TuW.new ?_ (by omega) _ _ | with_reducible refine TuW.alloc ?_ _))⟩
end Go.Proofs.Ytkgbjpdoigdjnaa
