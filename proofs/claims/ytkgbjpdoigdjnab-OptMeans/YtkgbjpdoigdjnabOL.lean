import Derived.Test.YtkgbjpdoigdjnabOG
import Derived.Test.YtkgbjpdoigdjnabOL1
set_option linter.unusedVariables false
set_option linter.unusedSimpArgs false
set_option maxHeartbeats 20000000
namespace Go.Proofs.Ytkgbjpdoigdjnab
open Go.RowKit
open Go.Maps
set_option maxRecDepth 100000
theorem rec_sel (base X M : Nat) (s : SE) (sv : Value) (w0 a b c k n : Nat) (w : World) (hS : SW w base X M s s.l sv) (ha : a < s.l.length) (hc : isC s.l a = true) :
  Calls Try.prog 169 #[.pointer (some ⟨X, 0, none⟩), .agg #[.int .i64 6, .int .i64 w0, .int .i64 a, .int .i64 b, .int .i64 c, .int .u32 k, .int .i64 n]] w fun e w' => e = .returned (.int .i64 (chO s.l ⟨6, w0, a, b, c, k, n⟩)) ∧ Below w.heap.size w w' := by
 have HSX : Hid (SX w _ base X M s s.l sv sv _) := SX.start hS ⟨6, w0, a, b, c, k, n⟩
 have HC : Hid (isC s.l a = true) := hc
 have HA : Hid (a < s.l.length) := ha
 clear hS hc ha
 go_enter Try.func169, Try.ntmps169
 go_wp2_with (first
  | (go_at_call 187; refine (isConst_any base X M s s.l sv a _ HSX.out.sw HA.out).mono ?_; rintro e w1 ⟨rfl, rfl⟩; rw [HC.out])
  | (go_at_call 188; refine (chosen_any base X M s s.l sv ⟨6, w0, a, b, c, k, n⟩ _ HSX.out.sw HA.out).mono ?_; rintro e w2 ⟨rfl, h2⟩; have H2 : Hid _ := h2; clear h2))
 go_ret
 exact ⟨rfl, ((Below.refl _ _).alloc (Nat.le_refl _) _).trans (H2.out.mono (by simp))⟩
theorem rec_n_n (base X M : Nat) (s : SE) (sv : Value) (o : ON) (w : World) (hS : SW w base X M s s.l sv) (hl : s.l.length < 100000) (hr : RecOk s o) (h6 : ¬ o.kd = 6) (hC : ofC s.l o = false) (hrec : recS s o = match fnd s.l (recO s o) with | some j => (s, some j) | none => ({ s with l := s.l ++ [recO s o] }, some s.l.length)) :
  Calls Try.prog 169 #[.pointer (some ⟨X, 0, none⟩), .agg #[.int .i64 o.kd, .int .i64 o.w, .int .i64 o.a, .int .i64 o.b, .int .i64 o.c, .int .u32 o.k, .int .i64 o.n]] w fun e w' => e = .returned (.int .i64 (oI (recS s o).2)) ∧ ∃ sv', SW w' base X M (recS s o).1 (recS s o).1.l sv' ∧ Kz base X M sv w sv' w' := by
 have HSX : Hid (SX w _ base X M s s.l sv sv _) := SX.start hS o
 have HS : Hid _ := hS
 have HL : Hid (s.l.length < 100000) := hl
 have HR : Hid _ := hr
 have HC : Hid (ofC s.l o = false) := hC
 have i6 : ¬ (o.kd : Int) = 6 := by omega
 have d6 : ((o.kd : Int) == 6) = false := by simpa using i6
 clear h6
 obtain ⟨oo, HOO⟩ : ∃ oo, Hid (o = oo) := ⟨_, rfl⟩
 have HREC : Hid (recS s o = match fnd s.l oo with | some j => (s, some j) | none => ({ s with l := s.l ++ [oo] }, some s.l.length)) := hrec.trans (by rw [show recO s o = oo from (if_neg (by rw [hC]; decide)).trans HOO.out])
 have HOW : Hid (OnW oo) := HOO.out ▸ hr.wf
 have HOP : Hid (isP oo.kd = true) := HOO.out ▸ hr.p
 clear hS hl hr hC hrec
 go_enter Try.func169, Try.ntmps169
 go_upto_region 5 with (first
  | fail
  | (go_at_call 189; refine (ofConsts_any base X M s s.l sv o _ HSX.out.sw HR.out.tk).mono ?_; rintro e w1 ⟨rfl, h1⟩; rw [HC.out]; have H1 : Hid _ := h1; clear h1))
 refine wp_gen (fun W' => SX w W' base X M s s.l sv sv oo) (HOO.out ▸ HSX.out.below H1.out HS.out.bw) ?_
 intro W hX
 have HX : Hid _ := hX
 have kl := row_lt hX.bx
 have kf := row_fr hX.bx
 have k0 := row_cell hX.bx 0
 have k1 := row_cell hX.bx 1
 have k2 := row_cell hX.bx 2
 have k3 := row_cell hX.bx 3
 have k4 := row_cell hX.bx 4
 have k5 := row_cell hX.bx 5
 have k6 := row_cell hX.bx 6
 have xl := hX.sw.xb.lt
 have xf := hX.sw.xb.frozen
 have x1 : W.cell? ⟨X, 1, none⟩ = some (.map (some M)) := hX.sw.xb.cell (i := 1) (by omega)
 obtain ⟨F, HF⟩ : ∃ F, Hid (fnd s.l oo = F) := ⟨_, rfl⟩
 cases F with
 | some j =>
  have HE : Hid (recS s o = (s, some j)) := HREC.out.trans (by rw [HF.out])
  have lk1 := look_yes HX.out.sw oo HOW.out HOP.out j HF.out
  clear hX
  go_region
  all_goals
   go_wp2
   go_ret
   exact ⟨by rw [HE.out]; rfl, _, by rw [HE.out]; exact HX.out.sw.below (by (repeat first | with_reducible exact Below.refl _ _ | with_reducible exact Below.refl _ _ | with_reducible refine Below.drew ?_ | with_reducible refine below_drewN ?_ _ | with_reducible refine Below.alloc ?_ (by first | (simp; done) | (simp; omega) | omega) _ | with_reducible refine Below.setCell ?_ (by first | (simp; done) | (simp; omega) | omega) _)), HX.out.kz.next (by (repeat first | with_reducible exact Below.refl _ _ | with_reducible exact Below.refl _ _ | with_reducible refine Below.drew ?_ | with_reducible refine below_drewN ?_ _ | with_reducible refine Below.alloc ?_ (by first | (simp; done) | (simp; omega) | omega) _ | with_reducible refine Below.setCell ?_ (by first | (simp; done) | (simp; omega) | omega) _)) HS.out.bw⟩
 | none =>
  have HE : Hid (recS s o = ({ s with l := s.l ++ [oo] }, some s.l.length)) := HREC.out.trans (by rw [HF.out])
  obtain ⟨c1, lk1⟩ := look_no HX.out.sw oo HOW.out HOP.out HF.out
  clear hX
  go_region
  all_goals
   go_upto_region 8 with (go_at_call 174; refine (lay_any base X M s s.l sv oo _ (HX.out.sw.below (by (repeat first | with_reducible exact Below.refl _ _ | with_reducible exact Below.refl _ _ | with_reducible refine Below.drew ?_ | with_reducible refine below_drewN ?_ _ | with_reducible refine Below.alloc ?_ (by first | (simp; done) | (simp; omega) | omega) _ | with_reducible refine Below.setCell ?_ (by first | (simp; done) | (simp; omega) | omega) _))) HL.out).mono ?_; rintro e w2 ⟨rfl, sv2, h2, k2⟩; have H2 : Hid _ := h2; have K2 : Hid _ := k2; have HB2 : Hid _ := (HS.out.keepNew k2 w.heap.size (Nat.le_refl _) (by first | exact row_lt HX.out.bx | (simp; exact row_lt HX.out.bx))).trans HX.out.bx; clear h2 k2)
   refine wp_gen (fun W' => SX w W' base X M { s with l := s.l ++ [oo] } s.l sv sv2 oo) ⟨H2.out, HB2.out, (HX.out.kz.next (by (repeat first | with_reducible exact Below.refl _ _ | with_reducible exact Below.refl _ _ | with_reducible refine Below.drew ?_ | with_reducible refine below_drewN ?_ _ | with_reducible refine Below.alloc ?_ (by first | (simp; done) | (simp; omega) | omega) _ | with_reducible refine Below.setCell ?_ (by first | (simp; done) | (simp; omega) | omega) _)) HS.out.bw).trans K2.out⟩ ?_
   clear k0 k1 k2 k3 k4 k5 k6 kl kf xl xf x1 lk1 H2 HB2 K2
   intro V hV
   have HV : Hid _ := hV
   have kl := row_lt hV.bx
   have kf := row_fr hV.bx
   have k0 := row_cell hV.bx 0
   have k1 := row_cell hV.bx 1
   have k2 := row_cell hV.bx 2
   have k3 := row_cell hV.bx 3
   have k4 := row_cell hV.bx 4
   have k5 := row_cell hV.bx 5
   have k6 := row_cell hV.bx 6
   have xl := hV.sw.xb.lt
   have x1 : V.cell? ⟨X, 1, none⟩ = some (.map (some M)) := hV.sw.xb.cell (i := 1) (by omega)
   obtain ⟨w3, hst, h3, k3⟩ := store_yes oo HV.out HOW.out HF.out HL.out HS.out.bw
   have H3 : Hid _ := h3
   have K3 : Hid _ := k3
   clear hV h3 k3
   go_region
   all_goals
    go_wp2
    go_ret
    exact ⟨by rw [HE.out]; rfl, _, by rw [HE.out]; exact H3.out.below (by (repeat first | with_reducible exact Below.refl _ _ | with_reducible exact Below.refl _ _ | with_reducible refine Below.drew ?_ | with_reducible refine below_drewN ?_ _ | with_reducible refine Below.alloc ?_ (by first | (simp; done) | (simp; omega) | omega) _ | with_reducible refine Below.setCell ?_ (by first | (simp; done) | (simp; omega) | omega) _)), K3.out.next (by (repeat first | with_reducible exact Below.refl _ _ | with_reducible exact Below.refl _ _ | with_reducible refine Below.drew ?_ | with_reducible refine below_drewN ?_ _ | with_reducible refine Below.alloc ?_ (by first | (simp; done) | (simp; omega) | omega) _ | with_reducible refine Below.setCell ?_ (by first | (simp; done) | (simp; omega) | omega) _)) HS.out.bw⟩
theorem rec_6_n (base X M : Nat) (s : SE) (sv : Value) (o : ON) (w : World) (hS : SW w base X M s s.l sv) (hl : s.l.length < 100000) (hr : RecOk s o) (h6 : o.kd = 6) (hc6 : isC s.l o.a = false) (hC : ofC s.l o = false) (hrec : recS s o = match fnd s.l (recO s o) with | some j => (s, some j) | none => ({ s with l := s.l ++ [recO s o] }, some s.l.length)) :
  Calls Try.prog 169 #[.pointer (some ⟨X, 0, none⟩), .agg #[.int .i64 o.kd, .int .i64 o.w, .int .i64 o.a, .int .i64 o.b, .int .i64 o.c, .int .u32 o.k, .int .i64 o.n]] w fun e w' => e = .returned (.int .i64 (oI (recS s o).2)) ∧ ∃ sv', SW w' base X M (recS s o).1 (recS s o).1.l sv' ∧ Kz base X M sv w sv' w' := by
 have HSX : Hid (SX w _ base X M s s.l sv sv _) := SX.start hS o
 have HS : Hid _ := hS
 have HL : Hid (s.l.length < 100000) := hl
 have HR : Hid _ := hr
 have HC : Hid (ofC s.l o = false) := hC
 have d6 : ((o.kd : Int) == 6) = true := by rw [h6]; rfl
 have HC6 : Hid (isC s.l o.a = false) := hc6
 have HA6 : Hid (o.a < s.l.length) := hr.tk 0 (by rw [h6]; decide)
 clear h6 hc6
 obtain ⟨oo, HOO⟩ : ∃ oo, Hid (o = oo) := ⟨_, rfl⟩
 have HREC : Hid (recS s o = match fnd s.l oo with | some j => (s, some j) | none => ({ s with l := s.l ++ [oo] }, some s.l.length)) := hrec.trans (by rw [show recO s o = oo from (if_neg (by rw [hC]; decide)).trans HOO.out])
 have HOW : Hid (OnW oo) := HOO.out ▸ hr.wf
 have HOP : Hid (isP oo.kd = true) := HOO.out ▸ hr.p
 clear hS hl hr hC hrec
 go_enter Try.func169, Try.ntmps169
 go_upto_region 5 with (first
  | (go_at_call 187; refine (isConst_any base X M s s.l sv o.a _ HSX.out.sw HA6.out).mono ?_; rintro e w1 ⟨rfl, rfl⟩; rw [HC6.out])
  | (go_at_call 189; refine (ofConsts_any base X M s s.l sv o _ HSX.out.sw HR.out.tk).mono ?_; rintro e w1 ⟨rfl, h1⟩; rw [HC.out]; have H1 : Hid _ := h1; clear h1))
 refine wp_gen (fun W' => SX w W' base X M s s.l sv sv oo) (HOO.out ▸ HSX.out.below H1.out HS.out.bw) ?_
 intro W hX
 have HX : Hid _ := hX
 have kl := row_lt hX.bx
 have kf := row_fr hX.bx
 have k0 := row_cell hX.bx 0
 have k1 := row_cell hX.bx 1
 have k2 := row_cell hX.bx 2
 have k3 := row_cell hX.bx 3
 have k4 := row_cell hX.bx 4
 have k5 := row_cell hX.bx 5
 have k6 := row_cell hX.bx 6
 have xl := hX.sw.xb.lt
 have xf := hX.sw.xb.frozen
 have x1 : W.cell? ⟨X, 1, none⟩ = some (.map (some M)) := hX.sw.xb.cell (i := 1) (by omega)
 obtain ⟨F, HF⟩ : ∃ F, Hid (fnd s.l oo = F) := ⟨_, rfl⟩
 cases F with
 | some j =>
  have HE : Hid (recS s o = (s, some j)) := HREC.out.trans (by rw [HF.out])
  have lk1 := look_yes HX.out.sw oo HOW.out HOP.out j HF.out
  clear hX
  go_region
  all_goals
   go_wp2
   go_ret
   exact ⟨by rw [HE.out]; rfl, _, by rw [HE.out]; exact HX.out.sw.below (by (repeat first | with_reducible exact Below.refl _ _ | with_reducible exact Below.refl _ _ | with_reducible refine Below.drew ?_ | with_reducible refine below_drewN ?_ _ | with_reducible refine Below.alloc ?_ (by first | (simp; done) | (simp; omega) | omega) _ | with_reducible refine Below.setCell ?_ (by first | (simp; done) | (simp; omega) | omega) _)), HX.out.kz.next (by (repeat first | with_reducible exact Below.refl _ _ | with_reducible exact Below.refl _ _ | with_reducible refine Below.drew ?_ | with_reducible refine below_drewN ?_ _ | with_reducible refine Below.alloc ?_ (by first | (simp; done) | (simp; omega) | omega) _ | with_reducible refine Below.setCell ?_ (by first | (simp; done) | (simp; omega) | omega) _)) HS.out.bw⟩
 | none =>
  have HE : Hid (recS s o = ({ s with l := s.l ++ [oo] }, some s.l.length)) := HREC.out.trans (by rw [HF.out])
  obtain ⟨c1, lk1⟩ := look_no HX.out.sw oo HOW.out HOP.out HF.out
  clear hX
  go_region
  all_goals
   go_upto_region 8 with (go_at_call 174; refine (lay_any base X M s s.l sv oo _ (HX.out.sw.below (by (repeat first | with_reducible exact Below.refl _ _ | with_reducible exact Below.refl _ _ | with_reducible refine Below.drew ?_ | with_reducible refine below_drewN ?_ _ | with_reducible refine Below.alloc ?_ (by first | (simp; done) | (simp; omega) | omega) _ | with_reducible refine Below.setCell ?_ (by first | (simp; done) | (simp; omega) | omega) _))) HL.out).mono ?_; rintro e w2 ⟨rfl, sv2, h2, k2⟩; have H2 : Hid _ := h2; have K2 : Hid _ := k2; have HB2 : Hid _ := (HS.out.keepNew k2 w.heap.size (Nat.le_refl _) (by first | exact row_lt HX.out.bx | (simp; exact row_lt HX.out.bx))).trans HX.out.bx; clear h2 k2)
   refine wp_gen (fun W' => SX w W' base X M { s with l := s.l ++ [oo] } s.l sv sv2 oo) ⟨H2.out, HB2.out, (HX.out.kz.next (by (repeat first | with_reducible exact Below.refl _ _ | with_reducible exact Below.refl _ _ | with_reducible refine Below.drew ?_ | with_reducible refine below_drewN ?_ _ | with_reducible refine Below.alloc ?_ (by first | (simp; done) | (simp; omega) | omega) _ | with_reducible refine Below.setCell ?_ (by first | (simp; done) | (simp; omega) | omega) _)) HS.out.bw).trans K2.out⟩ ?_
   clear k0 k1 k2 k3 k4 k5 k6 kl kf xl xf x1 lk1 H2 HB2 K2
   intro V hV
   have HV : Hid _ := hV
   have kl := row_lt hV.bx
   have kf := row_fr hV.bx
   have k0 := row_cell hV.bx 0
   have k1 := row_cell hV.bx 1
   have k2 := row_cell hV.bx 2
   have k3 := row_cell hV.bx 3
   have k4 := row_cell hV.bx 4
   have k5 := row_cell hV.bx 5
   have k6 := row_cell hV.bx 6
   have xl := hV.sw.xb.lt
   have x1 : V.cell? ⟨X, 1, none⟩ = some (.map (some M)) := hV.sw.xb.cell (i := 1) (by omega)
   obtain ⟨w3, hst, h3, k3⟩ := store_yes oo HV.out HOW.out HF.out HL.out HS.out.bw
   have H3 : Hid _ := h3
   have K3 : Hid _ := k3
   clear hV h3 k3
   go_region
   all_goals
    go_wp2
    go_ret
    exact ⟨by rw [HE.out]; rfl, _, by rw [HE.out]; exact H3.out.below (by (repeat first | with_reducible exact Below.refl _ _ | with_reducible exact Below.refl _ _ | with_reducible refine Below.drew ?_ | with_reducible refine below_drewN ?_ _ | with_reducible refine Below.alloc ?_ (by first | (simp; done) | (simp; omega) | omega) _ | with_reducible refine Below.setCell ?_ (by first | (simp; done) | (simp; omega) | omega) _)), K3.out.next (by (repeat first | with_reducible exact Below.refl _ _ | with_reducible exact Below.refl _ _ | with_reducible refine Below.drew ?_ | with_reducible refine below_drewN ?_ _ | with_reducible refine Below.alloc ?_ (by first | (simp; done) | (simp; omega) | omega) _ | with_reducible refine Below.setCell ?_ (by first | (simp; done) | (simp; omega) | omega) _)) HS.out.bw⟩
theorem reckon_any (base X M : Nat) (s : SE) (sv : Value) (o : ON) (w : World) (hS : SW w base X M s s.l sv) (hl : s.l.length < 100000) (hr : RecOk s o) :
  Calls Try.prog 169 #[.pointer (some ⟨X, 0, none⟩), .agg #[.int .i64 o.kd, .int .i64 o.w, .int .i64 o.a, .int .i64 o.b, .int .i64 o.c, .int .u32 o.k, .int .i64 o.n]] w fun e w' => e = .returned (.int .i64 (oI (recS s o).2)) ∧ ∃ sv', SW w' base X M (recS s o).1 (recS s o).1.l sv' ∧ Kz base X M sv w sv' w' := by
 by_cases h6 : o.kd = 6
 ·by_cases hc : isC s.l o.a = true
  ·have e : recS s o = (s, some (chO s.l o)) := if_pos ⟨h6, hc⟩
   rw [e]
   have ha := hr.tk 0 (by rw [h6]; decide)
   obtain ⟨kd, w0, a, b, c, k, n⟩ := o
   obtain rfl : kd = 6 := h6
   refine (rec_sel base X M s sv w0 a b c k n w hS ha hc).mono ?_
   rintro e w' ⟨rfl, h⟩
   exact ⟨rfl, sv, hS.below h, Kz.of_below h hS.bw⟩
  ·have hc' : isC s.l o.a = false := by simpa using hc
   have hC : ofC s.l o = false := by
    unfold ofC
    rw [show tkN o.kd = 3 by rw [h6]; decide, ofCq_no (q := 0) (p := 3) hc' (by omega)]
    rfl
   exact rec_6_n base X M s sv o w hS hl hr h6 hc' hC (if_neg (fun h => hc h.2))
 ·cases hC : ofC s.l o with
  | true => exact rec_n_c base X M s sv o w hS hl hr h6 hC (if_neg (fun h => h6 h.1))
  | false => exact rec_n_n base X M s sv o w hS hl hr h6 hC (if_neg (fun h => h6 h.1))
end Go.Proofs.Ytkgbjpdoigdjnab
