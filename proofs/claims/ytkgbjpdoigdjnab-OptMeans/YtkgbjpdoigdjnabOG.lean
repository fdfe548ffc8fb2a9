import Derived.Test.YtkgbjpdoigdjnabOE
import Derived.Test.YtkgbjpdoigdjnabVCV
set_option linter.unusedVariables false
set_option linter.unusedSimpArgs false
set_option maxHeartbeats 2000000
namespace Go.Proofs.Ytkgbjpdoigdjnab
open Go.RowKit
open Go.Maps
set_option maxRecDepth 100000
def endO (o : ON) : ON := if o.kd = 13 then ⟨14, o.w, 0, 0, 0, o.k, o.n⟩ else ⟨15, 0, 0, 0, 0, o.k, o.n⟩
def askS (s : SE) (o : ON) : SE × Option Nat :=
 if isC s.l o.a = false then ({ s with l := s.l ++ [o] }, some s.l.length)
 else if (s.l.getD o.a onD).k = 0 then (s, none)
 else ({ s with l := s.l ++ [endO o], lft := true }, some s.l.length)
structure SY (w W : World) (base X M : Nat) (s : SE) (ml : List ON) (sv0 sv : Value) (o : ON) (E : Nat) (x : ON) : Prop where
 sx : SX w W base X M s ml sv0 sv o
 e : W.heap[E]? = some (.cells #[.int .i64 x.kd, .int .i64 x.w, .int .i64 x.a, .int .i64 x.b, .int .i64 x.c, .int .u32 x.k, .int .i64 x.n] 67)
theorem SX.more {w W : World} {base X M : Nat} {s : SE} {ml : List ON} {sv0 sv : Value} {o : ON} (h : SX w W base X M s ml sv0 sv o) (x : ON) (hb : base ≤ w.heap.size) : SY w (W.alloc (.cells #[.int .i64 x.kd, .int .i64 x.w, .int .i64 x.a, .int .i64 x.b, .int .i64 x.c, .int .u32 x.k, .int .i64 x.n] 67)) base X M s ml sv0 sv o W.heap.size x :=
 ⟨h.below ((Below.refl _ _).alloc (Nat.le_refl _) _) hb, heap_alloc_last _ _⟩
theorem SX.setNew {w W : World} {base X M : Nat} {s s0 : SE} {ml ml0 : List ON} {sv : Value} {o : ON} (h : SX w W base X M s ml sv sv o) (hS : SW w base X M s0 ml0 sv) {B : Nat} (hB : w.heap.size < B) (i : Nat) (v : Value) : SX w (W.setCell ⟨B, i, none⟩ v) base X M s ml sv sv o :=
 ⟨h.sw.keep (blk_other (by have := hS.xb.lt; omega) v) (blk_other (by have := hS.ltM; omega) v) (fun g hg => blk_other (by have := (hS.ow hg).2.2; omega) v) (by simp), (blk_other (by omega) v).trans h.bx, h.kz.setIn (.inr (by omega)) (by have := hS.bw; omega) _ _⟩
theorem ask_any (base X M : Nat) (s : SE) (ml : List ON) (sv : Value) (o : ON) (w : World) (hS : SW w base X M s ml sv) (hlen : s.l.length < 100000) (ha : o.a < s.l.length) :
  Calls Try.prog 172 #[.pointer (some ⟨X, 0, none⟩), .agg #[.int .i64 o.kd, .int .i64 o.w, .int .i64 o.a, .int .i64 o.b, .int .i64 o.c, .int .u32 o.k, .int .i64 o.n]] w fun e w' => e = .returned (.int .i64 (oI (askS s o).2)) ∧ ∃ sv', SW w' base X M (askS s o).1 ml sv' ∧ Kz base X M sv w sv' w' := by
 have HS : Hid _ := hS
 have HL : Hid (s.l.length < 100000) := hlen
 have HA : Hid (o.a < s.l.length) := ha
 have lX := hS.xb.lt
 have lX1 := Nat.lt_succ_of_lt lX
 have neX : X ≠ w.heap.size := by omega
 have HSX : Hid _ := SX.start hS o
 obtain ⟨C, HC⟩ : ∃ C, Hid (isC s.l o.a = C) := ⟨_, rfl⟩
 have ARM : True := trivial
 cases C with
 | false =>
  have HG : Hid (askS s o = ({ s with l := s.l ++ [o] }, some s.l.length)) := show _ = _ by unfold askS; rw [if_pos HC.out]
  rw [HG.out]
  clear hS hlen ha
  go_enter Try.func172, Try.ntmps172
  go_wp2_with (first
   | (go_at_call 187; refine (isConst_any base X M s ml sv o.a _ HSX.out.sw HA.out).mono ?_; rintro e w1 ⟨rfl, rfl⟩; rw [HC.out])
   | (go_at_call 174; refine (lay_any base X M s ml sv o _ HSX.out.sw HL.out).mono ?_; rintro e w2 ⟨rfl, sv2, h2, k2⟩; have H2 : Hid _ := h2; have K2 : Hid _ := k2; clear h2 k2))
  go_ret
  exact ⟨rfl, _, H2.out, HSX.out.kz.trans K2.out⟩
 | true =>
  obtain ⟨g, cap, hsv, lg, hcap, hc⟩ := owns_at hS.o (by omega)
  have c0 : w.cell? ⟨X, 0, none⟩ = some (.slice (some ⟨g, 0, none⟩) s.l.length cap) := hsv ▸ hS.xb.cell (i := 0) (by omega)
  have m0 := hc o.a 5 ha (by omega)
  clear hsv
  simp only [onC] at m0
  have i0 : (0 : Int) ≤ (o.a : Int) := by omega
  have i1 : (o.a : Int) < (s.l.length : Int) := by omega
  have lg1 := Nat.lt_succ_of_lt lg
  have neg : g ≠ w.heap.size := by omega
  obtain ⟨K, HK⟩ : ∃ K, Hid ((s.l.getD o.a onD).k = K) := ⟨_, rfl⟩
  rw [HK.out] at m0
  by_cases h0 : K = 0
  ·have HG : Hid (askS s o = (s, none)) := show _ = _ by unfold askS; rw [if_neg (by rw [HC.out]; decide), if_pos (HK.out.trans h0)]
   rw [HG.out]
   subst h0
   clear hS hlen ha hc hcap
   go_enter Try.func172, Try.ntmps172
   go_upto_region 3 with (go_at_call 187; refine (isConst_any base X M s ml sv o.a _ HSX.out.sw HA.out).mono ?_; rintro e w1 ⟨rfl, rfl⟩; rw [HC.out])
   go_quiet (fail)
   go_wp2
   go_ret
   exact ⟨rfl, _, HS.out.below (by (repeat first | with_reducible exact Below.refl _ _ | with_reducible exact Below.refl _ _ | with_reducible refine Below.drew ?_ | with_reducible refine below_drewN ?_ _ | with_reducible refine Below.alloc ?_ (by first | (simp; done) | (simp; omega) | omega) _ | with_reducible refine Below.setCell ?_ (by first | (simp; done) | (simp; omega) | omega) _)), Kz.of_below (by (repeat first | with_reducible exact Below.refl _ _ | with_reducible exact Below.refl _ _ | with_reducible refine Below.drew ?_ | with_reducible refine below_drewN ?_ _ | with_reducible refine Below.alloc ?_ (by first | (simp; done) | (simp; omega) | omega) _ | with_reducible refine Below.setCell ?_ (by first | (simp; done) | (simp; omega) | omega) _)) HS.out.bw⟩
  ·have HG : Hid (askS s o = ({ s with l := s.l ++ [endO o], lft := true }, some s.l.length)) := show _ = _ by unfold askS; rw [if_neg (by rw [HC.out]; decide), if_neg (by rw [HK.out]; exact h0)]
   rw [HG.out]
   have hK : ¬ (K : Int) = 0 := by omega
   have dK : ((K : Int) == 0) = false := by simpa using hK
   have x15 := hS.xb.frozen
   have c15 : w.cell? ⟨X, 15, none⟩ = some (.bool s.lft) := hS.xb.cell (i := 15) (by omega)
   clear hS hlen ha hc hcap h0
   go_enter Try.func172, Try.ntmps172
   go_upto_region 3 with (go_at_call 187; refine (isConst_any base X M s ml sv o.a _ HSX.out.sw HA.out).mono ?_; rintro e w1 ⟨rfl, rfl⟩; rw [HC.out])
   go_quiet (fail)
   go_upto_region 6 with fail
   refine wp_gen (fun W' => SX w W' base X M { s with lft := true } ml sv sv o) (by exact (HSX.out.drewN _ HS.out.bw).left true lX) ?_
   intro W hX
   have HX : Hid _ := hX
   have kl := row_lt hX.bx
   have k0 := row_cell hX.bx 0
   have k1 := row_cell hX.bx 1
   have k2 := row_cell hX.bx 2
   have k3 := row_cell hX.bx 3
   have k4 := row_cell hX.bx 4
   have k5 := row_cell hX.bx 5
   have k6 := row_cell hX.bx 6
   clear hX m0 c0 x15 c15 i1 lX1 lg1 neg dK hK
   go_upto_region 7 with fail
   refine wp_gen (fun W' => SY w W' base X M { s with lft := true } ml sv sv o W.heap.size ⟨15, 0, 0, 0, 0, o.k, o.n⟩) (HX.out.more ⟨15, 0, 0, 0, 0, o.k, o.n⟩ HS.out.bw) ?_
   clear k0 k1 k2 k3 k4 k5 k6 kl
   intro V hV
   have HV : Hid _ := hV
   have kl := row_lt hV.sx.bx
   have k0 := row_cell hV.sx.bx 0
   have k1 := row_cell hV.sx.bx 1
   have k2 := row_cell hV.sx.bx 2
   have k3 := row_cell hV.sx.bx 3
   have k4 := row_cell hV.sx.bx 4
   have k5 := row_cell hV.sx.bx 5
   have k6 := row_cell hV.sx.bx 6
   have el := row_lt hV.e
   have ef := row_fr hV.e
   have e0 := row_cell hV.e 0
   have e1 := row_cell hV.e 1
   have e2 := row_cell hV.e 2
   have e3 := row_cell hV.e 3
   have e4 := row_cell hV.e 4
   have e5 := row_cell hV.e 5
   have e6 := row_cell hV.e 6
   have HNE : Hid (w.heap.size < W.heap.size) := row_lt HX.out.bx
   have ne1 : W.heap.size ≠ w.heap.size := by have := HNE.out; omega
   clear hV
   by_cases h13 : o.kd = 13
   ·have HE : Hid (endO o = ⟨14, o.w, 0, 0, 0, o.k, o.n⟩) := if_pos h13
    have d13 : ((o.kd : Int) == 13) = true := by rw [h13]; rfl
    have i13 : (o.kd : Int) = 13 := by omega
    clear h13
    rw [i13] at k0
    go_upto_region 8 with fail
    go_region
    all_goals
     go_wp2_with (go_at_call 174; refine (lay_any base X M { s with lft := true } ml sv (⟨14, o.w, 0, 0, 0, o.k, o.n⟩ : ON) _ (SX.sw (show SX w _ base X M { s with lft := true } ml sv sv o from (by (repeat first | with_reducible exact HV.out.sx | with_reducible refine SX.setNew ?_ HS.out HNE.out _ _ | with_reducible refine SX.drew ?_ HS.out.bw | with_reducible refine SX.drewN ?_ _ HS.out.bw)))) HL.out).mono ?_; rintro e w2 ⟨rfl, sv2, h2, k2⟩; have H2 : Hid _ := h2; have K2 : Hid _ := k2; clear h2 k2)
     go_ret
     exact ⟨rfl, _, by rw [HE.out]; exact H2.out, (SX.kz (show SX w _ base X M { s with lft := true } ml sv sv o from (by (repeat first | with_reducible exact HV.out.sx | with_reducible refine SX.setNew ?_ HS.out HNE.out _ _ | with_reducible refine SX.drew ?_ HS.out.bw | with_reducible refine SX.drewN ?_ _ HS.out.bw)))).trans K2.out⟩
   ·have HE : Hid (endO o = ⟨15, 0, 0, 0, 0, o.k, o.n⟩) := if_neg h13
    have i13 : ¬ (o.kd : Int) = 13 := by omega
    have d13 : ((o.kd : Int) == 13) = false := by simpa using i13
    clear h13
    go_wp2_with (go_at_call 174; refine (lay_any base X M { s with lft := true } ml sv (⟨15, 0, 0, 0, 0, o.k, o.n⟩ : ON) _ HV.out.sx.sw HL.out).mono ?_; rintro e w2 ⟨rfl, sv2, h2, k2⟩; have H2 : Hid _ := h2; have K2 : Hid _ := k2; clear h2 k2)
    go_ret
    exact ⟨rfl, _, by rw [HE.out]; exact H2.out, HV.out.sx.kz.trans K2.out⟩
theorem fnd_app_other {l : List ON} {x o : ON} (h : x ≠ o) : fnd (l ++ [x]) o = fnd l o := by
 unfold fnd
 rw [List.findIdx?_append]
 have e : onEq x o = false := by
  cases hq : onEq x o
  ·rfl
  ·exact absurd ((onEq_iff x o).1 hq) h
 simp [List.findIdx?_cons, e]
theorem fnd_app_same {l : List ON} {o : ON} (h : fnd l o = none) : fnd (l ++ [o]) o = some l.length := by
 unfold fnd at *
 rw [List.findIdx?_append, h]
 have e : onEq o o = true := (onEq_iff o o).2 rfl
 simp [List.findIdx?_cons, e]
theorem fnd_some {l : List ON} {o : ON} {j : Nat} (h : fnd l o = some j) : j < l.length ∧ l.getD j onD = o := by
 unfold fnd at h
 rw [List.findIdx?_eq_some_iff_getElem] at h
 obtain ⟨h1, h2, -⟩ := h
 exact ⟨h1, by rw [List.getD_eq_getElem?_getD, List.getElem?_eq_getElem h1]; exact (onEq_iff _ _).1 h2⟩
theorem MapOk.other {D : DataW Unit} {l : List ON} (h : MapOk D l) {x : ON} (hx : isP x.kd = false) : MapOk D (l ++ [x]) := by
 have ne : ∀ o : ON, isP o.kd = true → x ≠ o := fun o ho e => by rw [e, ho] at hx; cases hx
 exact ⟨fun o h1 h2 => by rw [fnd_app_other (ne o h2)]; exact h.hs o h1 h2, fun o j h1 h2 h3 => h.at_ o j h1 h2 (by rwa [fnd_app_other (ne o h2)] at h3)⟩
theorem MapOk.put {D : DataW Unit} {l : List ON} (h : MapOk D l) (im : Maps.IsMap D) {x : ON} (hx : OnW x) (hn : fnd l x = none) : MapOk (D.put (klO x) (.lit (.int .i64 (l.length : Int)))) (l ++ [x]) := by
 have hk := key_law.key (key_on x hx)
 refine ⟨fun o h1 h2 => ?_, fun o j h1 h2 h3 => ?_⟩
 ·by_cases e : x = o
  ·subst e; rw [fnd_app_same hn, has_put_same im hk]; rfl
  ·rw [fnd_app_other e, has_put_other (fun q => e (kl_inj hx h1 q.symm))]; exact h.hs o h1 h2
 ·by_cases e : x = o
  ·subst e; rw [fnd_app_same hn] at h3; cases h3; exact atKey_put_same im hk _ _
  ·rw [fnd_app_other e] at h3; rw [atKey_put_other (fun q => e (kl_inj hx h1 q.symm))]; exact h.at_ o j h1 h2 h3
def cstO (k : Nat) : ON := ⟨1, 0, 0, 0, 0, k, 0⟩
def recO (s : SE) (o : ON) : ON := if ofC s.l o then cstO (vOf o (s.l.getD o.a onD).k (s.l.getD o.b onD).k (s.l.getD o.c onD).k) else o
def recS (s : SE) (o : ON) : SE × Option Nat :=
 if o.kd = 6 ∧ isC s.l o.a = true then (s, some (chO s.l o))
 else match fnd s.l (recO s o) with
  | some j => (s, some j)
  | none => ({ s with l := s.l ++ [recO s o] }, some s.l.length)
structure RecOk (s : SE) (o : ON) : Prop where
 p : isP o.kd = true
 wf : OnW o
 tk : ∀ q, q < tkN o.kd → arg o q < s.l.length
 b0 : tkN o.kd < 2 → o.b = 0
 c0 : tkN o.kd < 3 → o.c = 0
 h4 : o.kd = 4 ∨ o.kd = 8 → o.w ≤ 15
 h5 : o.kd = 5 → o.w ≤ 6
 ks : ∀ i, (s.l.getD i onD).k < 4294967296
abbrev bxSet (W : World) (B : Nat) (x : ON) : World := (((((((W.setCell ⟨B, 0, none⟩ (.int .i64 x.kd)).setCell ⟨B, 1, none⟩ (.int .i64 x.w)).setCell ⟨B, 2, none⟩ (.int .i64 x.a)).setCell ⟨B, 3, none⟩ (.int .i64 x.b)).setCell ⟨B, 4, none⟩ (.int .i64 x.c)).setCell ⟨B, 5, none⟩ (.int .u32 x.k)).setCell ⟨B, 6, none⟩ (.int .i64 x.n))
theorem bx_blk (W : World) (B : Nat) (x o : ON) (h : W.heap[B]? = some (.cells #[.int .i64 o.kd, .int .i64 o.w, .int .i64 o.a, .int .i64 o.b, .int .i64 o.c, .int .u32 o.k, .int .i64 o.n] 67)) : (bxSet W B x).heap[B]? = some (.cells #[.int .i64 x.kd, .int .i64 x.w, .int .i64 x.a, .int .i64 x.b, .int .i64 x.c, .int .u32 x.k, .int .i64 x.n] 67) := by
 have e0 := heap_setCell_same W B 0 _ _ (.int .i64 x.kd) h
 have e1 := heap_setCell_same _ B 1 _ _ (.int .i64 x.w) e0
 have e2 := heap_setCell_same _ B 2 _ _ (.int .i64 x.a) e1
 have e3 := heap_setCell_same _ B 3 _ _ (.int .i64 x.b) e2
 have e4 := heap_setCell_same _ B 4 _ _ (.int .i64 x.c) e3
 have e5 := heap_setCell_same _ B 5 _ _ (.int .u32 x.k) e4
 have e6 := heap_setCell_same _ B 6 _ _ (.int .i64 x.n) e5
 exact e6.trans (by simp [List.setIfInBounds_toArray])
theorem bx_other (W : World) (B : Nat) (x : ON) (i : Nat) (h : i ≠ B) : (bxSet W B x).heap[i]? = W.heap[i]? := by
 unfold bxSet
 rw [blk_other h, blk_other h, blk_other h, blk_other h, blk_other h, blk_other h, blk_other h]
theorem bx_size (W : World) (B : Nat) (x : ON) : (bxSet W B x).heap.size = W.heap.size := by simp [bxSet]
theorem SX.boxed {w W : World} {base X M : Nat} {s s0 : SE} {ml ml0 : List ON} {sv : Value} {o : ON} (h : SX w W base X M s ml sv sv o) (hS : SW w base X M s0 ml0 sv) (x : ON) : SX w (bxSet W w.heap.size x) base X M s ml sv sv x :=
 ⟨h.sw.keep (bx_other _ _ _ _ (by have := hS.xb.lt; omega)) (bx_other _ _ _ _ (by have := hS.ltM; omega)) (fun g hg => bx_other _ _ _ _ (by have := (hS.ow hg).2.2; omega)) (by rw [bx_size]; exact Nat.le_refl _), bx_blk _ _ _ _ h.bx,
  (((((((h.kz.setIn (.inr (Nat.le_refl _)) hS.bw _ _).setIn (.inr (Nat.le_refl _)) hS.bw _ _).setIn (.inr (Nat.le_refl _)) hS.bw _ _).setIn (.inr (Nat.le_refl _)) hS.bw _ _).setIn (.inr (Nat.le_refl _)) hS.bw _ _).setIn (.inr (Nat.le_refl _)) hS.bw _ _).setIn (.inr (Nat.le_refl _)) hS.bw _ _)⟩
theorem zero_int (w : World) : (zeroValue 3).run Try.prog w = .ok (.int .i64 0) w := by kernel_rfl
theorem look_yes {W : World} {base X M : Nat} {s : SE} {sv : Value} (h : SW W base X M s s.l sv) (o : ON) (hw : OnW o) (hp : isP o.kd = true) (j : Nat) (hj : fnd s.l o = some j) : Sem.run Try.prog (Instr.lookup 209 (.map (some M)) (.agg #[.int .i64 o.kd, .int .i64 o.w, .int .i64 o.a, .int .i64 o.b, .int .i64 o.c, .int .u32 o.k, .int .i64 o.n]) true) W.drew = .ok (.tuple #[.int .i64 j, .bool true]) W.drew := by
 obtain ⟨D, hD, hm⟩ := h.mp
 have hD' : W.drew.ownsMap Try.prog 67 (plainElem Try.prog 3) M s.l.length D := own_map_keep hD rfl
 obtain ⟨v, ps, hr, hv⟩ := hD'.look_ok key_law Try.underlying209 (zero_int _) (plainElem_int Try.underlying3 (by decide)) (key_on o hw)
 rw [hm.hs o hw hp, hj] at hr
 rw [hm.at_ o j hw hp hj] at hv
 obtain ⟨c, rfl, hc, -⟩ := plainElem_int_inv Try.underlying3 hv
 cases hc
 exact hr
theorem look_no {W : World} {base X M : Nat} {s : SE} {sv : Value} (h : SW W base X M s s.l sv) (o : ON) (hw : OnW o) (hp : isP o.kd = true) (hj : fnd s.l o = none) : ∃ c : Int, Sem.run Try.prog (Instr.lookup 209 (.map (some M)) (.agg #[.int .i64 o.kd, .int .i64 o.w, .int .i64 o.a, .int .i64 o.b, .int .i64 o.c, .int .u32 o.k, .int .i64 o.n]) true) W.drew = .ok (.tuple #[.int .i64 c, .bool false]) W.drew := by
 obtain ⟨D, hD, hm⟩ := h.mp
 have hD' : W.drew.ownsMap Try.prog 67 (plainElem Try.prog 3) M s.l.length D := own_map_keep hD rfl
 obtain ⟨v, ps, hr, hv⟩ := hD'.look_ok key_law Try.underlying209 (zero_int _) (plainElem_int Try.underlying3 (by decide)) (key_on o hw)
 rw [hm.hs o hw hp, hj] at hr
 obtain ⟨c, rfl, hc, -⟩ := plainElem_int_inv Try.underlying3 hv
 exact ⟨c, hr⟩
theorem store_yes {w W : World} {base X M : Nat} {s : SE} {sv0 sv : Value} (o : ON) (h : SX w W base X M { s with l := s.l ++ [o] } s.l sv0 sv o) (hw : OnW o) (hn : fnd s.l o = none) (hl : s.l.length < 100000) (hb : base ≤ w.heap.size) : ∃ w', Sem.run Try.prog (Instr.mapUpdate 209 (.map (some M)) (.agg #[.int .i64 o.kd, .int .i64 o.w, .int .i64 o.a, .int .i64 o.b, .int .i64 o.c, .int .u32 o.k, .int .i64 o.n]) (.int .i64 s.l.length)) W.drew = .ok () w' ∧ SW w' base X M { s with l := s.l ++ [o] } (s.l ++ [o]) sv ∧ Kz base X M sv0 w sv w' := by
 obtain ⟨D, hD, hm⟩ := h.sw.mp
 have hD' : W.drew.ownsMap Try.prog 67 (plainElem Try.prog 3) M s.l.length D := own_map_keep hD rfl
 have im := hD.isMap
 obtain ⟨w', hr, h1, h2⟩ := hD'.store key_law Try.underlying209 (by unfold maxLen; omega) (key_on o hw) (plainElem_int Try.underlying3 (wf_i s.l.length (by omega)))
 have hg := h2.grown
 have hX : w'.heap[X]? = W.heap[X]? := hg.block X h.sw.xb.lt (fun e => h.sw.neXM (Option.some.inj e))
 have hO : ∀ g, sv.ownBlock = some g → w'.heap[g]? = W.heap[g]? := fun g e => hg.block g (h.sw.ow e).2.2 (fun q => (h.sw.ow e).2.1 (Option.some.inj q))
 refine ⟨w', hr, ⟨h.sw.xb.of_block hX, owns_keep h.sw.o hO, ⟨_, by rw [List.length_append]; exact h1, hm.put im hw hn⟩, h.sw.bX, h.sw.bM, Nat.le_trans h.sw.bw hg.size⟩, h.kz.trans ⟨?_, fun i e1 e2 e3 e4 => hg.block i e1 (fun q => e3 (Option.some.inj q)), .inl rfl⟩⟩
 exact (Below.grown (Below.refl base W) (⟨hg.os, hg.tape, hg.output, hg.size, hg.block⟩ : W.grownBy w' (some M)) h.sw.bw (fun k hk => by cases hk; exact h.sw.bM))
def SlOk (s : SE) : Prop := ∀ i v, s.sl i = some v → v < s.l.length
def KsOk (s : SE) : Prop := ∀ i, (s.l.getD i onD).k < 4294967296
theorem SW.other {w : World} {base X M : Nat} {s : SE} {l : List ON} {sv : Value} (h : SW w base X M s l sv) (x : ON) (hx : isP x.kd = false) : SW w base X M s (l ++ [x]) sv := by
 obtain ⟨D, hD, hm⟩ := h.mp
 exact ⟨h.xb, h.o, ⟨D, hD.mono (by simp), hm.other hx⟩, h.bX, h.bM, h.bw⟩
def telS (s : SE) (o : ON) : SE × Option Nat :=
 match s.now with
 | some v => (s, some v)
 | none => if knB s then recS s (mdO s) else ({ s with l := s.l ++ [o], now := some s.l.length }, some s.l.length)
theorem kn_all {s : SE} (h : knB s = true) : ∃ v8 v9 v10 v11, s.sl 8 = some v8 ∧ s.sl 9 = some v9 ∧ s.sl 10 = some v10 ∧ s.sl 11 = some v11 := by
 unfold knB at h
 simp only [Bool.and_eq_true] at h
 obtain ⟨⟨⟨⟨h8, h9⟩, h10⟩, h11⟩, -⟩ := h
 obtain ⟨a, ha⟩ := Option.isSome_iff_exists.1 h8
 obtain ⟨b, hb⟩ := Option.isSome_iff_exists.1 h9
 obtain ⟨c, hc⟩ := Option.isSome_iff_exists.1 h10
 obtain ⟨d, hd⟩ := Option.isSome_iff_exists.1 h11
 exact ⟨a, b, c, d, ha, hb, hc, hd⟩
theorem md_ok {s : SE} (hs : SlOk s) (hk : KsOk s) (hl : s.l.length < 100000) (h : knB s = true) : RecOk s (mdO s) := by
 obtain ⟨v8, v9, v10, v11, h8, h9, h10, h11⟩ := kn_all h
 have l9 := hs _ _ h9
 have l10 := hs _ _ h10
 have l11 := hs _ _ h11
 have e : mdO s = ⟨7, if (s.l.getD v8 onD).k ≤ 12 then (s.l.getD v8 onD).k else 0, v9, v10, v11, 0, 0⟩ := by unfold mdO; rw [h8, h9, h10, h11]; rfl
 have hw : (if (s.l.getD v8 onD).k ≤ 12 then (s.l.getD v8 onD).k else 0) ≤ 12 := by split <;> omega
 rw [e]
 generalize (if (s.l.getD v8 onD).k ≤ 12 then (s.l.getD v8 onD).k else 0) = ww at hw
 refine ⟨rfl, ⟨by show 7 < _; omega, by show ww < _; omega, by show v9 < _; omega, by show v10 < _; omega, by show v11 < _; omega, by show 0 < _; omega, by show 0 < _; omega⟩, fun q hq => ?_, fun h => absurd h (by show ¬ tkN 7 < 2; decide), fun h => absurd h (by show ¬ tkN 7 < 3; decide), fun h => by (rcases h with h | h <;> exact absurd h (by show ¬ 7 = _; decide)), fun h => absurd h (by show ¬ 7 = 5; decide), hk⟩
 have hq3 : q < 3 := hq
 rcases (by omega : q = 0 ∨ q = 1 ∨ q = 2) with rfl | rfl | rfl
 ·exact l9
 ·exact l10
 ·exact l11
theorem tell_any (base X M : Nat) (s : SE) (sv : Value) (o : ON) (w : World) (HREC : ∀ (s : SE) (sv : Value) (o : ON) (w : World), SW w base X M s s.l sv → s.l.length < 100000 → RecOk s o → Calls Try.prog 169 #[.pointer (some ⟨X, 0, none⟩), .agg #[.int .i64 o.kd, .int .i64 o.w, .int .i64 o.a, .int .i64 o.b, .int .i64 o.c, .int .u32 o.k, .int .i64 o.n]] w fun e w' => e = .returned (.int .i64 (oI (recS s o).2)) ∧ ∃ sv', SW w' base X M (recS s o).1 (recS s o).1.l sv' ∧ Kz base X M sv w sv' w') (hS : SW w base X M s s.l sv) (hl : s.l.length < 100000) (hs : SlOk s) (hk : KsOk s) (ho : o.kd = 17) :
  Calls Try.prog 173 #[.pointer (some ⟨X, 0, none⟩), .agg #[.int .i64 o.kd, .int .i64 o.w, .int .i64 o.a, .int .i64 o.b, .int .i64 o.c, .int .u32 o.k, .int .i64 o.n]] w fun e w' => e = .returned (.int .i64 (oI (telS s o).2)) ∧ ∃ sv', SW w' base X M (telS s o).1 (telS s o).1.l sv' ∧ Kz base X M sv w sv' w' := by
 have HSX : Hid (SX w _ base X M s s.l sv sv _) := SX.start hS o
 have HS : Hid _ := hS
 have HL : Hid (s.l.length < 100000) := hl
 have lX := hS.xb.lt
 have lX1 := Nat.lt_succ_of_lt lX
 have neX : X ≠ w.heap.size := by omega
 have c14 : w.cell? ⟨X, 14, none⟩ = some (.int .i64 (oI s.now)) := hS.xb.cell (i := 14) (by omega)
 obtain ⟨S, HN⟩ : ∃ S, Hid (s.now = S) := ⟨_, rfl⟩
 rw [HN.out] at c14
 have HRC : Hid _ := HREC
 cases S with
 | some v =>
  have HG : Hid (telS s o = (s, some v)) := show _ = _ by unfold telS; rw [HN.out]
  rw [HG.out]
  rw [oI_some] at c14
  have dv : ((v : Int) == -1) = false := by simp
  clear hS hl hs hk ho HREC HRC
  go_enter Try.func173, Try.ntmps173
  go_wp2
  go_ret
  exact ⟨rfl, _, HS.out.below (by (repeat first | with_reducible exact Below.refl _ _ | with_reducible exact Below.refl _ _ | with_reducible refine Below.drew ?_ | with_reducible refine below_drewN ?_ _ | with_reducible refine Below.alloc ?_ (by first | (simp; done) | (simp; omega) | omega) _ | with_reducible refine Below.setCell ?_ (by first | (simp; done) | (simp; omega) | omega) _)), Kz.of_below (by (repeat first | with_reducible exact Below.refl _ _ | with_reducible exact Below.refl _ _ | with_reducible refine Below.drew ?_ | with_reducible refine below_drewN ?_ _ | with_reducible refine Below.alloc ?_ (by first | (simp; done) | (simp; omega) | omega) _ | with_reducible refine Below.setCell ?_ (by first | (simp; done) | (simp; omega) | omega) _)) HS.out.bw⟩
 | none =>
  rw [oI_none] at c14
  obtain ⟨B, HB⟩ : ∃ B, Hid (knB s = B) := ⟨_, rfl⟩
  have H8 : Hid (∀ v, s.sl 8 = some v → v < s.l.length) := hs 8
  cases B with
  | true =>
   obtain ⟨v8, v9, v10, v11, h8, h9, h10, h11⟩ := kn_all HB.out
   have HMD : Hid (RecOk s (mdO s)) := md_ok hs hk hl HB.out
   have HMA : Hid (∀ W, SW W base X M s s.l sv → Calls Try.prog 192 #[.pointer (some ⟨X, 0, none⟩)] W fun e w' => e = .returned (.agg #[.int .i64 (mdO s).kd, .int .i64 (mdO s).w, .int .i64 (mdO s).a, .int .i64 (mdO s).b, .int .i64 (mdO s).c, .int .u32 (mdO s).k, .int .i64 (mdO s).n]) ∧ Below W.heap.size W w') := show ∀ W, _ from fun W h => made_any base X M s s.l sv v8 v9 v10 v11 W h h8 h9 h10 h11 (hs 8 v8 h8)
   have HG : Hid (telS s o = recS s (mdO s)) := show _ = _ by unfold telS; rw [HN.out]; show (if knB s = true then _ else _) = _; rw [if_pos HB.out]
   rw [HG.out]
   obtain ⟨md, HM⟩ : ∃ md, Hid (mdO s = md) := ⟨_, rfl⟩
   clear hS hl hs hk ho HREC h8 h9 h10 h11
   rw [HM.out] at HMA HMD ⊢
   go_enter Try.func173, Try.ntmps173
   go_wp2_with (first
    | (go_at_call 191; refine (known_any base X M s s.l sv _ HSX.out.sw H8.out).mono ?_; rintro e w1 ⟨rfl, rfl⟩; rw [HB.out])
    | (go_at_call 192; refine (HMA.out _ HSX.out.sw).mono ?_; rintro e w2 ⟨rfl, h2⟩; have H2 : Hid _ := h2; clear h2)
    | (go_at_call 169; refine (HRC.out s sv md _ (HSX.out.sw.below H2.out) HL.out HMD.out).mono ?_; rintro e w3 ⟨rfl, sv3, h3, k3⟩; have H3 : Hid _ := h3; have K3 : Hid _ := k3; clear h3 k3))
   go_ret
   exact ⟨rfl, _, H3.out, (HSX.out.kz.next H2.out HS.out.bw).trans K3.out⟩
  | false =>
   have HG : Hid (telS s o = ({ s with l := s.l ++ [o], now := some s.l.length }, some s.l.length)) := show _ = _ by unfold telS; rw [HN.out]; show (if knB s = true then _ else _) = _; rw [if_neg (by rw [HB.out]; decide)]
   rw [HG.out]
   have HO : Hid (isP o.kd = false) := show _ = _ by rw [ho]; rfl
   clear hS hl hs hk ho HREC HRC
   go_enter Try.func173, Try.ntmps173
   go_wp2_with (first
    | (go_at_call 191; refine (known_any base X M s s.l sv _ HSX.out.sw H8.out).mono ?_; rintro e w1 ⟨rfl, rfl⟩; rw [HB.out])
    | (go_at_call 174; refine (lay_any base X M s s.l sv o _ HSX.out.sw HL.out).mono ?_; rintro e w2 ⟨rfl, sv2, h2, k2⟩; have H2 : Hid _ := h2; have K2 : Hid _ := k2; have y14 : w2.cell? ⟨X, 14, none⟩ = some (.int .i64 (oI s.now)) := h2.xb.cell (i := 14) (by omega); rw [HN.out, oI_none] at y14; have yf := h2.xb.frozen; have yl := h2.xb.lt; clear h2 k2))
   go_ret
   exact ⟨rfl, _, (H2.out.setNow (some s.l.length)).other o HO.out, (HSX.out.kz.trans K2.out).setIn (.inl rfl) HS.out.bX _ _⟩
end Go.Proofs.Ytkgbjpdoigdjnab
