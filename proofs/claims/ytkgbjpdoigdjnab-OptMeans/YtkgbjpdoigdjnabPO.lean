import Derived.Test.YtkgbjpdoigdjnabPM
set_option linter.unusedVariables false
set_option linter.unusedSimpArgs false
namespace Go.Proofs.Ytkgbjpdoigdjnab
open Go.RowKit
open Go.Maps
set_option maxRecDepth 100000
theorem md_pok (count : Int) (s : SE) (o : ON) (h : POk count s o) (hc : 0 ≤ count) (hk : knB s = true) : POk count s (mdO s) := by
 obtain ⟨v8, v9, v10, v11, h8, h9, h10, h11⟩ := kn_all hk
 have e : mdO s = ⟨7, if (s.l.getD v8 onD).k ≤ 12 then (s.l.getD v8 onD).k else 0, v9, v10, v11, 0, 0⟩ := by unfold mdO; rw [h8, h9, h10, h11]; rfl
 have hw : (if (s.l.getD v8 onD).k ≤ 12 then (s.l.getD v8 onD).k else 0) ≤ 12 := by split <;> omega
 rw [e]
 generalize (if (s.l.getD v8 onD).k ≤ 12 then (s.l.getD v8 onD).k else 0) = ww at hw
 refine ⟨⟨by show 1 ≤ 7; omega, by show 7 ≤ 17; omega, by show (0 : Int) ≤ (ww : Int); omega, by show (ww : Int) ≤ 12; omega, fun q => absurd q (by show ¬ tkN 7 < 1; decide), fun q => absurd q (by show ¬ tkN 7 < 2; decide), fun q => absurd q (by show ¬ tkN 7 < 3; decide), fun _ => rfl, fun _ => rfl, fun q => absurd q (by show ¬ 7 = 14; decide), hc⟩, by show 0 < _; omega, fun q hq => ?_, h.sl, h.nw, h.ks⟩
 have hq3 : q < 3 := hq
 rcases (by omega : q = 0 ∨ q = 1 ∨ q = 2) with rfl | rfl | rfl
 ·exact h.sl _ _ h9
 ·exact h.sl _ _ h10
 ·exact h.sl _ _ h11
theorem dr_tel (count : Int) (s : SE) (o : ON) (h : POk count s o) (hk : o.kd = 17) (hc : 0 ≤ count) : DR count s o (telS s o) := by
 have hg : gvN o.kd = true := by rw [hk]; rfl
 have he : enN o.kd = false := by rw [hk]; rfl
 have hw : wt o.kd = 2 := by rw [hk]; rfl
 unfold telS
 cases hn : s.now with
 | some v => exact ⟨.inl ⟨rfl, rfl, he⟩, fun _ => ⟨v, rfl, h.nw v hn⟩, fun q => q, fun q => q⟩
 | none =>
  show DR count s o (if knB s = true then recS s (mdO s) else ({ s with l := s.l ++ [o], now := some s.l.length }, some s.l.length))
  by_cases hb : knB s = true
  ·rw [if_pos hb]
   have d := dr_rec count s (mdO s) (md_pok count s o h hc hb) rfl hc
   have wm : wt (mdO s).kd = 1 := rfl
   refine ⟨?_, fun _ => d.val rfl, d.sl, d.nw⟩
   rcases d.lay with ⟨a, b, -⟩ | ⟨y, y1, y2, y3, y4, y5, y6, y7, y8, y9, y10⟩
   ·exact .inl ⟨a, b, he⟩
   ·refine .inr ⟨y, y1, y2, y3, y4, y5, fun q => ?_, y7, fun q => (by rw [he] at q; cases q), by omega, fun q => by omega⟩
    rcases y6 q with e | e
    ·rw [e] at q; exact absurd q (by show ¬ enN 7 = true; decide)
    ·exact .inr e
  ·rw [if_neg hb]
   refine ⟨.inr ⟨o, rfl, h.loc, h.ar, h.k, rfl, fun _ => .inl rfl, fun q => .inl q, fun _ => ⟨rfl, rfl⟩, Nat.le_refl _, fun _ => .inl ⟨rfl, rfl⟩⟩, fun q => ⟨_, rfl, Val.new _ q⟩, fun q a v e => (q a v e).app o, fun q v e => ?_⟩
   have e' : some s.l.length = some v := e
   cases e'
   exact Val.new _ hg
theorem dr_do (count : Int) (s : SE) (o : ON) (h : POk count s o) (hc : 0 ≤ count) : DR count s o (doS s o) := by
 unfold doS
 split
 ·rename_i q; exact dr_rec count s o h q hc
 split
 ·rename_i q; exact dr_get count s o h q
 split
 ·rename_i q; exact dr_put count s o h q
 split
 ·rename_i q; exact dr_ask count s o h q
 split
 ·rename_i q; exact dr_tel count s o h q hc
 ·exact dr_lay count s o h
theorem ren_loc (count : Int) (o : ON) (t : Nat → Option Nat) (h : Loc count o) : Loc count (ren o t) := by
 refine ⟨h.k1, h.k2, h.wl, h.wh, fun q => ?_, fun q q2 => ?_, fun q => ?_, h.fk, h.fn, fun q => ?_, h.nc⟩
 ·show (if 0 < tkN o.kd then _ else o.a) = 0
  rw [if_neg (by have : tkN o.kd < 1 := q; omega)]; exact h.fa q
 ·show (if 1 < tkN o.kd then _ else o.b) = 0
  rw [if_neg (by have : tkN o.kd < 2 := q; omega)]; exact h.fb q q2
 ·show (if 2 < tkN o.kd then _ else o.c) = 0
  rw [if_neg (by have : tkN o.kd < 3 := q; omega)]; exact h.fc q
 ·have q' : o.kd = 14 := q
  show (if 1 < tkN o.kd then _ else o.b) ≤ _
  rw [if_neg (by rw [q']; decide)]; exact h.fg q'
theorem ren_arg (o : ON) (t : Nat → Option Nat) (q : Nat) (hq : q < tkN o.kd) : arg (ren o t) q = (t (arg o q)).getD 0 := by
 have h3 := (tkN_le o.kd).1
 rcases (by omega : q = 0 ∨ q = 1 ∨ q = 2) with rfl | rfl | rfl
 ·exact if_pos hq
 ·exact if_pos hq
 ·exact if_pos hq
theorem ren_id (o : ON) (t : Nat → Option Nat) (h : ∀ q, q < tkN o.kd → t (arg o q) = some (arg o q)) : ren o t = o := by
 obtain ⟨kd, w, a, b, c, k, n⟩ := o
 unfold ren
 have e0 : (if 0 < tkN kd then (t a).getD 0 else a) = a := by
  by_cases q : 0 < tkN kd
  ·rw [if_pos q, show t a = some a from h 0 q]; rfl
  ·rw [if_neg q]
 have e1 : (if 1 < tkN kd then (t b).getD 0 else b) = b := by
  by_cases q : 1 < tkN kd
  ·rw [if_pos q, show t b = some b from h 1 q]; rfl
  ·rw [if_neg q]
 have e2 : (if 2 < tkN kd then (t c).getD 0 else c) = c := by
  by_cases q : 2 < tkN kd
  ·rw [if_pos q, show t c = some c from h 2 q]; rfl
  ·rw [if_neg q]
 show ON.mk kd w (if 0 < tkN kd then (t a).getD 0 else a) (if 1 < tkN kd then (t b).getD 0 else b) (if 2 < tkN kd then (t c).getD 0 else c) k n = _
 rw [e0, e1, e2]
structure LOk (count : Int) (l : List ON) : Prop where
 loc : ∀ j, j < l.length → Loc count (hOf l j)
 ar : ∀ j, j < l.length → ∀ q, q < tkN (hOf l j).kd → arg (hOf l j) q < j ∧ gvN (hOf l (arg (hOf l j) q)).kd = true
 ks : ∀ j, (hOf l j).k < 4294967296
theorem hOf_out {l : List ON} {j : Nat} (h : l.length ≤ j) : hOf l j = onD := by
 unfold hOf
 rw [List.getD_eq_getElem?_getD, List.getElem?_eq_none h]; rfl
theorem LOk.app {count : Int} {l : List ON} (h : LOk count l) {y : ON} (h1 : Loc count y) (h2 : ∀ q, q < tkN y.kd → Val l (arg y q)) (h3 : y.k < 4294967296) : LOk count (l ++ [y]) := by
 refine ⟨fun j hj => ?_, fun j hj q hq => ?_, fun j => ?_⟩
 ·rw [List.length_append] at hj
  by_cases e : j < l.length
  ·rw [hOf_old e]; exact h.loc j e
  ·obtain rfl : j = l.length := by simp at hj; omega
   rw [hOf_new]; exact h1
 ·rw [List.length_append] at hj
  by_cases e : j < l.length
  ·rw [hOf_old e] at hq ⊢
   obtain ⟨a, b⟩ := h.ar j e q hq
   exact ⟨a, by rw [hOf_old (Nat.lt_trans a e)]; exact b⟩
  ·obtain rfl : j = l.length := by simp at hj; omega
   rw [hOf_new] at hq ⊢
   obtain ⟨a, b⟩ := h2 q hq
   exact ⟨a, by rw [hOf_old a]; exact b⟩
 ·by_cases e : j < l.length
  ·rw [hOf_old e]; exact h.ks j
  ·by_cases e2 : j = l.length
   ·rw [e2, hOf_new]; exact h3
   ·rw [hOf_out (by rw [List.length_append]; simp; omega)]; exact (by decide : (0 : Nat) < 4294967296)
structure Inv (count : Int) (h : Nat → ON) (n i : Nat) (x : TS) : Prop where
 len : x.s.l.length ≤ i
 lok : LOk count x.s.l
 en : ∀ j, j < x.s.l.length → enN (hOf x.s.l j).kd = true → j + 1 = x.s.l.length ∧ (x.s.lft = true ∨ i = n)
 lf : x.s.lft = true → 0 < x.s.l.length ∧ enN (hOf x.s.l (x.s.l.length - 1)).kd = true
 tt : x.s.lft = false → ∀ p, p < i → gvN (h p).kd = true → ∃ v, x.t p = some v ∧ Val x.s.l v
 sl : ∀ a v, x.s.sl a = some v → Val x.s.l v
 nw : ∀ v, x.s.now = some v → Val x.s.l v
 la : x.s.lft = false → i = n → 0 < x.s.l.length ∧ enN (hOf x.s.l (x.s.l.length - 1)).kd = true
theorem inv_pok {count : Int} {h : Nat → ON} {n i : Nat} {x : TS} (B : Blk count h n) (ks : ∀ i, (h i).k < 4294967296) (I : Inv count h n i x) (hi : i < n) (hl : x.s.lft = false) : POk count x.s (ren (h i) x.t) := by
 refine ⟨ren_loc count _ _ (B.loc i hi), ks i, fun q hq => ?_, I.sl, I.nw, I.lok.ks⟩
 have hq' : q < tkN (h i).kd := hq
 obtain ⟨a1, a2⟩ := B.ar i hi q hq'
 obtain ⟨v, hv, hV⟩ := I.tt hl _ a1 a2
 rw [ren_arg _ _ _ hq', hv]
 exact hV
theorem inv_step {count : Int} {h : Nat → ON} {n i : Nat} (B : Blk count h n) (ks : ∀ i, (h i).k < 4294967296) (hc : 0 ≤ count) (I : Inv count h n i (runS h i)) (hi : i < n) : Inv count h n (i + 1) (runS h (i + 1)) := by
 cases hl : (runS h i).s.lft with
 | true =>
  have e : runS h (i + 1) = runS h i := by show (if (runS h i).s.lft then _ else _) = _; rw [if_pos hl]
  rw [e]
  exact ⟨Nat.le_succ_of_le I.len, I.lok, fun j hj q => ⟨(I.en j hj q).1, .inl hl⟩, I.lf, fun q => (by rw [hl] at q; cases q), I.sl, I.nw, fun q => (by rw [hl] at q; cases q)⟩
 | false =>
  rw [runS_next h i hl]
  have P := inv_pok B ks I hi hl
  have D := dr_do count _ _ P hc
  generalize hx : runS h i = x at *
  show Inv count h n (i + 1) ⟨(doS x.s (ren (h i) x.t)).1, upd x.t i (doS x.s (ren (h i) x.t)).2⟩
  generalize hr : doS x.s (ren (h i) x.t) = r at *
  have Dv : gvN (h i).kd = true → ∃ v, r.2 = some v ∧ Val r.1.l v := D.val
  have hsl := D.sl I.sl
  have hnw := D.nw I.nw
  have tt : (∀ v, Val x.s.l v → Val r.1.l v) → r.1.lft = false → ∀ p, p < i + 1 → gvN (h p).kd = true → ∃ v, upd x.t i r.2 p = some v ∧ Val r.1.l v := fun hm _ p hp hg => by
   unfold upd
   by_cases e : p = i
   ·rw [if_pos e]; rw [e] at hg; exact Dv hg
   ·rw [if_neg e]
    obtain ⟨v, h1, h2⟩ := I.tt hl p (by omega) hg
    exact ⟨v, h1, hm v h2⟩
  have noen : ∀ j, j < x.s.l.length → ¬ enN (hOf x.s.l j).kd = true := fun j hj q => by
   rcases (I.en j hj q).2 with e | e
   ·rw [hl] at e; cases e
   ·omega
  have hlen := I.len
  rcases D.lay with ⟨e1, e2, e3⟩ | ⟨y, y1, y2, y3, y4, y5, y6, y7, y8, y9, y10⟩
  ·have e3' : enN (h i).kd = false := e3
   refine ⟨by show r.1.l.length ≤ i + 1; rw [e1]; omega, by show LOk count r.1.l; rw [e1]; exact I.lok, ?_, ?_, tt (fun v hv => by rw [e1]; exact hv), hsl, hnw, ?_⟩
   ·show ∀ j, j < r.1.l.length → enN (hOf r.1.l j).kd = true → _
    rw [e1]
    exact fun j hj q => absurd q (noen j hj)
   ·intro q
    have q' : r.1.lft = true := q
    rw [e2, hl] at q'; cases q'
   ·intro _ q
    have := B.la
    rw [show n - 1 = i by omega, e3'] at this
    cases this
  ·have ll : r.1.l.length = x.s.l.length + 1 := by rw [y1]; simp
   refine ⟨by show r.1.l.length ≤ i + 1; omega, by show LOk count r.1.l; rw [y1]; exact I.lok.app y2 y3 y4, ?_, ?_, tt (fun v hv => by rw [y1]; exact hv.app y), hsl, hnw, ?_⟩
   ·intro j hj q
    have hj' : j < r.1.l.length := hj
    have q' : enN (hOf r.1.l j).kd = true := q
    show j + 1 = r.1.l.length ∧ (r.1.lft = true ∨ i + 1 = n)
    by_cases e : j < x.s.l.length
    ·rw [y1, hOf_old e] at q'; exact absurd q' (noen j e)
    ·have ej : j = x.s.l.length := by omega
     rw [y1, ej, hOf_new] at q'
     refine ⟨by omega, ?_⟩
     rcases y6 q' with e | e
     ·rw [e] at q'; exact .inr (B.en i hi q')
     ·exact .inl e
   ·intro q
    have q' : r.1.lft = true := q
    show 0 < r.1.l.length ∧ enN (hOf r.1.l (r.1.l.length - 1)).kd = true
    refine ⟨by omega, ?_⟩
    rw [ll, Nat.add_sub_cancel, y1, hOf_new]
    rcases y7 q' with e | e
    ·rw [hl] at e; cases e
    ·exact e
   ·intro _ q
    show 0 < r.1.l.length ∧ enN (hOf r.1.l (r.1.l.length - 1)).kd = true
    refine ⟨by omega, ?_⟩
    have hla := B.la
    rw [show n - 1 = i by omega] at hla
    rw [ll, Nat.add_sub_cancel, y1, hOf_new, (y8 hla).1]
    exact hla
theorem inv_zero (count : Int) (h : Nat → ON) (n : Nat) (hn : 0 < n) : Inv count h n 0 (runS h 0) := by
 have e : runS h 0 = ⟨se0, fun _ => some 0⟩ := rfl
 rw [e]
 refine ⟨Nat.le_refl _, ⟨fun j hj => absurd hj (Nat.not_lt_zero _), fun j hj => absurd hj (Nat.not_lt_zero _), fun j => ?_⟩, fun j hj => absurd hj (Nat.not_lt_zero _), fun q => ?_, fun _ p hp => absurd hp (Nat.not_lt_zero _), fun a v q => ?_, fun v q => ?_, fun _ q => by omega⟩
 ·show (hOf [] j).k < _
  rw [hOf_out (Nat.zero_le _)]; exact (by decide : (0 : Nat) < 4294967296)
 ·exact absurd q (by show ¬ (false = true); decide)
 ·have q' : (none : Option Nat) = some v := q
  cases q'
 ·have q' : (none : Option Nat) = some v := q
  cases q'
theorem inv_all {count : Int} {h : Nat → ON} {n : Nat} (B : Blk count h n) (ks : ∀ i, (h i).k < 4294967296) (hc : 0 ≤ count) : ∀ i, i ≤ n → Inv count h n i (runS h i)
 | 0, _ => inv_zero count h n B.n0
 | i + 1, hi => inv_step B ks hc (inv_all B ks hc i (by omega)) (by omega)
theorem set_blk {count : Int} {h : Nat → ON} {n : Nat} (B : Blk count h n) (ks : ∀ i, (h i).k < 4294967296) (hc : 0 ≤ count) : Blk count (hOf (runS h n).s.l) (runS h n).s.l.length ∧ ∀ i, (hOf (runS h n).s.l i).k < 4294967296 := by
 have I := inv_all B ks hc n (Nat.le_refl _)
 have hla : 0 < (runS h n).s.l.length ∧ enN (hOf (runS h n).s.l ((runS h n).s.l.length - 1)).kd = true := by
  cases hl : (runS h n).s.lft with
  | true => exact I.lf hl
  | false => exact I.la hl rfl
 exact ⟨⟨hla.1, Nat.le_trans I.len B.n1, I.lok.loc, I.lok.ar, fun i hi q => (I.en i hi q).1, hla.2⟩, I.lok.ks⟩
theorem g_set {count bytes : Int} {l : List ON} (g : G count bytes l) : G count bytes (setL l) := by
 obtain ⟨h1, h2, h3⟩ := (G_iff count bytes l).1 g
 exact (G_iff count bytes (setL l)).2 ⟨h1, set_blk h2 h3 h1.1.1⟩
end Go.Proofs.Ytkgbjpdoigdjnab
