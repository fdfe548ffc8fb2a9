import Derived.Test.YtkgbjpdoigdjnabPO
set_option linter.unusedVariables false
set_option linter.unusedSimpArgs false
namespace Go.Proofs.Ytkgbjpdoigdjnab
open Go.RowKit
open Go.Maps
set_option maxRecDepth 100000
theorem hi_le (k : Nat) (h1 : 1 ≤ k) (h2 : k ≤ 17) : (rrT k).hi ≤ 255 ∧ (k = 4 ∨ k = 8 → (rrT k).hi ≤ 15) ∧ (k = 5 → (rrT k).hi ≤ 6) ∧ (k = 2 ∨ k = 3 → (rrT k).hi ≤ 11) := by
 rcases (by omega : k = 1 ∨ k = 2 ∨ k = 3 ∨ k = 4 ∨ k = 5 ∨ k = 6 ∨ k = 7 ∨ k = 8 ∨ k = 9 ∨ k = 10 ∨ k = 11 ∨ k = 12 ∨ k = 13 ∨ k = 14 ∨ k = 15 ∨ k = 16 ∨ k = 17) with rfl | rfl | rfl | rfl | rfl | rfl | rfl | rfl | rfl | rfl | rfl | rfl | rfl | rfl | rfl | rfl | rfl <;> exact ⟨by decide, by decide, by decide, by decide⟩
theorem on_wf {count : Int} {o : ON} {m : Nat} (L : Loc count o) (hc : count ≤ 64) (hk : o.k < 4294967296) (hm : m ≤ 2048) (ha : ∀ q, q < tkN o.kd → arg o q < m) : OnW o := by
 have h1 := L.k1
 have h2 := L.k2
 have hh := (hi_le o.kd h1 h2).1
 have hw := L.wh
 have hn := L.nc
 have a0 : o.a < 9223372036854775808 := by
  by_cases q : 0 < tkN o.kd
  ·have : o.a < m := ha 0 q
   omega
  ·rw [L.fa (by omega)]; decide
 have b0 : o.b < 9223372036854775808 := by
  by_cases q : 1 < tkN o.kd
  ·have : o.b < m := ha 1 q
   omega
  ·by_cases e : o.kd = 14
   ·have := L.fg e
    omega
   ·rw [L.fb (by omega) e]; decide
 have c0 : o.c < 9223372036854775808 := by
  by_cases q : 2 < tkN o.kd
  ·have : o.c < m := ha 2 q
   omega
  ·rw [L.fc (by omega)]; decide
 exact ⟨by omega, by omega, a0, b0, c0, hk, by omega⟩
theorem set_ok {count : Int} {h : Nat → ON} {n : Nat} (B : Blk count h n) (ks : ∀ i, (h i).k < 4294967296) (hc : 0 ≤ count) (hc2 : count ≤ 64) : SetOk h n := by
 intro i hi hl
 have I := inv_all B ks hc i (by omega)
 have P := inv_pok B ks I hi hl
 have n1 := B.n1
 have hlen := I.len
 have hh := hi_le _ P.loc.k1 P.loc.k2
 have hw := P.loc.wh
 have hlt : ∀ q, q < tkN (ren (h i) (runS h i).t).kd → arg (ren (h i) (runS h i).t) q < (runS h i).s.l.length := fun q hq => (P.ar q hq).1
 refine ⟨⟨P.loc.k1, P.loc.k2, fun hp => ⟨hp, on_wf P.loc hc2 P.k (by omega) hlt, hlt, fun q => P.loc.fb q (by rcases isP_k hp with e | e | e | e | e | e <;> omega), P.loc.fc, fun q => ?_, fun q => ?_, P.ks⟩, fun q => ?_, fun q => ?_, by omega, fun a v e => (I.sl a v e).1, I.lok.ks⟩, fun q hq => by have := (B.ar i hi q hq).1; omega, fun q hq => ?_⟩
 ·have := hh.2.1 q; omega
 ·have := hh.2.2.1 q; omega
 ·have := hh.2.2.2 q; omega
 ·exact hlt 0 (by rcases q with e | e <;> (rw [e]; decide))
 ·obtain ⟨a1, a2⟩ := B.ar i hi q hq
  obtain ⟨v, hv, -⟩ := I.tt hl _ a1 a2
  exact ⟨v, hv⟩
theorem ne_ok {count : Int} {h : Nat → ON} {n : Nat} (B : Blk count h n) : NeOk h n :=
 ⟨fun i hi => (B.loc i hi).k1, fun i hi => (B.loc i hi).k2, fun i hi q hq => by have := (B.ar i hi q hq).1; omega, fun i hi q => by
  have := (hi_le _ (B.loc i hi).k1 (B.loc i hi).k2).2.2.2 q
  have := (B.loc i hi).wh
  omega⟩
theorem tkSet_mono {t : Nat → Bool} {o : ON} {j : Nat} (h : t j = true) : ∀ q, tkSet t o q j = true
 | 0 => h
 | q + 1 => by
  show upd (tkSet t o q) (arg o q) true j = true
  unfold upd
  split
  ·rfl
  ·exact tkSet_mono h q
theorem tkSet_at {t : Nat → Bool} {o : ON} {p : Nat} : ∀ q, p < q → tkSet t o q (arg o p) = true
 | 0, h => absurd h (Nat.not_lt_zero _)
 | q + 1, h => by
  show upd (tkSet t o q) (arg o q) true (arg o p) = true
  unfold upd
  split
  ·rfl
  ·rename_i ne
   exact tkSet_at q (by
    rcases Nat.lt_succ_iff_lt_or_eq.1 h with e | e
    ·exact e
    ·exact absurd (by rw [e]) ne)
theorem ne_mono (h : Nat → ON) (n : Nat) {m j : Nat} (hj : (neS h n m).d.tk j = true) : ∀ d, (neS h n (m + d)).d.tk j = true
 | 0 => hj
 | d + 1 => by
  show (if staB (neS h n (m + d)).d _ _ then askN (neS h n (m + d)).d _ else (neS h n (m + d)).d : ND).tk j = true
  split
  ·exact tkSet_mono (ne_mono h n hj d) _
  ·exact ne_mono h n hj d
theorem ne_sy (h : Nat → ON) (n : Nat) {m : Nat} (hm : m < n) : ∀ d, m + 1 + d ≤ n → (neS h n (m + 1 + d)).sy (n - 1 - m) = staB (neS h n m).d (n - 1 - m) (h (n - 1 - m))
 | 0, _ => by
  show upd _ (n - 1 - m) _ (n - 1 - m) = _
  exact if_pos rfl
 | d + 1, hd => by
  show upd (neS h n (m + 1 + d)).sy (n - 1 - (m + 1 + d)) _ (n - 1 - m) = _
  unfold upd
  rw [if_neg (by omega)]
  exact ne_sy h n hm d (by omega)
def syF (h : Nat → ON) (n : Nat) : Nat → Bool := (neS h n n).sy
theorem sy_at (h : Nat → ON) (n : Nat) {i : Nat} (hi : i < n) : syF h n i = staB (neS h n (n - 1 - i)).d i (h i) := by
 have e := ne_sy h n (m := n - 1 - i) (by omega) i (by omega)
 rw [show n - 1 - i + 1 + i = n by omega, show n - 1 - (n - 1 - i) = i by omega] at e
 exact e
theorem lv_gv (k : Nat) (h1 : 1 ≤ k) (h2 : k ≤ 17) : (gvN k = true → k ≠ 3) ∧ (enN k = true → (ruT k).leaves = true) ∧ (gvN k = true → k ≠ 9 → (ruT k).leaves = false) := by
 rcases (by omega : k = 1 ∨ k = 2 ∨ k = 3 ∨ k = 4 ∨ k = 5 ∨ k = 6 ∨ k = 7 ∨ k = 8 ∨ k = 9 ∨ k = 10 ∨ k = 11 ∨ k = 12 ∨ k = 13 ∨ k = 14 ∨ k = 15 ∨ k = 16 ∨ k = 17) with rfl | rfl | rfl | rfl | rfl | rfl | rfl | rfl | rfl | rfl | rfl | rfl | rfl | rfl | rfl | rfl | rfl <;> exact ⟨by decide, by decide, by decide⟩
theorem sy_last {count : Int} {h : Nat → ON} {n : Nat} (B : Blk count h n) : syF h n (n - 1) = true := by
 have n0 := B.n0
 rw [sy_at h n (by omega)]
 unfold staB
 rw [if_pos ((lv_gv _ (B.loc _ (by omega)).k1 (B.loc _ (by omega)).k2).2.1 B.la)]
theorem sy_arg {count : Int} {h : Nat → ON} {n i q : Nat} (B : Blk count h n) (hi : i < n) (hs : syF h n i = true) (hq : q < tkN (h i).kd) : syF h n (arg (h i) q) = true := by
 obtain ⟨a1, a2⟩ := B.ar i hi q hq
 generalize hj : arg (h i) q = j at *
 rw [sy_at h n hi] at hs
 rw [sy_at h n (by omega)]
 have ht : (neS h n (n - 1 - i + 1)).d.tk j = true := by
  show (if staB (neS h n (n - 1 - i)).d (n - 1 - (n - 1 - i)) (h (n - 1 - (n - 1 - i))) then askN (neS h n (n - 1 - i)).d (h (n - 1 - (n - 1 - i))) else (neS h n (n - 1 - i)).d : ND).tk j = true
  rw [show n - 1 - (n - 1 - i) = i by omega, if_pos hs]
  show tkSet _ (h i) (tkN (h i).kd) j = true
  rw [← hj]
  exact tkSet_at _ hq
 have ht2 := ne_mono h n ht (i - 1 - j)
 rw [show n - 1 - i + 1 + (i - 1 - j) = n - 1 - j by omega] at ht2
 unfold staB
 split
 ·rfl
 ·rw [if_neg ((lv_gv _ (B.loc j (by omega)).k1 (B.loc j (by omega)).k2).1 a2)]
  exact ht2
structure KInv (count : Int) (h : Nat → ON) (sy : Nat → Bool) (n i : Nat) (x : KS) : Prop where
 lok : LOk count x.l
 en : ∀ j, j < x.l.length → enN (hOf x.l j).kd = true → i = n ∧ j + 1 = x.l.length
 tt : ∀ p, p < i → sy p = true → ∃ v, x.t p = some v ∧ v < x.l.length ∧ (hOf x.l v).kd = (h p).kd
 la : i = n → 0 < x.l.length ∧ enN (hOf x.l (x.l.length - 1)).kd = true
theorem kinv_zero (count : Int) (h : Nat → ON) (sy : Nat → Bool) (n : Nat) (hn : 0 < n) : KInv count h sy n 0 (keS h sy 0) :=
 ⟨⟨fun j hj => absurd hj (Nat.not_lt_zero _), fun j hj => absurd hj (Nat.not_lt_zero _), fun j => by (show (hOf [] j).k < _; rw [hOf_out (Nat.zero_le _)]; exact (by decide : (0 : Nat) < 4294967296))⟩, fun j hj => absurd hj (Nat.not_lt_zero _), fun p hp => absurd hp (Nat.not_lt_zero _), fun q => by omega⟩
theorem kinv_step {count : Int} {h : Nat → ON} {n i : Nat} {sy : Nat → Bool} (B : Blk count h n) (ks : ∀ i, (h i).k < 4294967296) (hy : ∀ i q, i < n → sy i = true → q < tkN (h i).kd → sy (arg (h i) q) = true) (hz : sy (n - 1) = true) (I : KInv count h sy n i (keS h sy i)) (hi : i < n) : KInv count h sy n (i + 1) (keS h sy (i + 1)) := by
 have noen : ∀ j, j < (keS h sy i).l.length → ¬ enN (hOf (keS h sy i).l j).kd = true := fun j hj q => by
  have := (I.en j hj q).1
  omega
 cases hs : sy i with
 | false =>
  have e : keS h sy (i + 1) = keS h sy i := by show (if sy i then _ else _ : KS) = _; rw [if_neg (by rw [hs]; decide)]
  rw [e]
  refine ⟨I.lok, fun j hj q => absurd q (noen j hj), fun p hp q => I.tt p (by
   by_cases e : p = i
   ·rw [e, hs] at q; cases q
   ·omega) q, fun q => ?_⟩
  rw [show n - 1 = i by omega, hs] at hz; cases hz
 | true =>
  generalize hx : keS h sy i = x at *
  have e : keS h sy (i + 1) = ⟨x.l ++ [ren (h i) (upd x.t i (some x.l.length))], upd x.t i (some x.l.length)⟩ := by show (if sy i then _ else _ : KS) = _; rw [if_pos hs, hx]
  rw [e]
  have ha : ∀ q, q < tkN (h i).kd → Val x.l (arg (ren (h i) (upd x.t i (some x.l.length))) q) := fun q hq => by
   obtain ⟨a1, a2⟩ := B.ar i hi q hq
   obtain ⟨v, v1, v2, v3⟩ := I.tt _ a1 (hy i q hi hs hq)
   rw [ren_arg _ _ _ hq]
   unfold upd
   rw [if_neg (by omega), v1]
   exact ⟨v2, by show gvN (hOf x.l v).kd = true; rw [v3]; exact a2⟩
  generalize hy' : ren (h i) (upd x.t i (some x.l.length)) = y at *
  have yk : y.kd = (h i).kd := by rw [← hy']; rfl
  have ykk : y.k = (h i).k := by rw [← hy']; rfl
  have ll : (x.l ++ [y]).length = x.l.length + 1 := by simp
  refine ⟨I.lok.app (by rw [← hy']; exact ren_loc count _ _ (B.loc i hi)) (by rw [yk]; exact ha) (by rw [ykk]; exact ks i), fun j hj q => ?_, fun p hp q => ?_, fun q => ?_⟩
  ·have hj' : j < (x.l ++ [y]).length := hj
   have q' : enN (hOf (x.l ++ [y]) j).kd = true := q
   show i + 1 = n ∧ j + 1 = (x.l ++ [y]).length
   by_cases e : j < x.l.length
   ·rw [hOf_old e] at q'; exact absurd q' (noen j e)
   ·have ej : j = x.l.length := by omega
    rw [ej, hOf_new, yk] at q'
    exact ⟨B.en i hi q', by omega⟩
  ·show ∃ v, upd x.t i (some x.l.length) p = some v ∧ v < (x.l ++ [y]).length ∧ (hOf (x.l ++ [y]) v).kd = (h p).kd
   unfold upd
   by_cases e : p = i
   ·rw [if_pos e, e]
    exact ⟨_, rfl, by omega, by rw [hOf_new]; exact yk⟩
   ·rw [if_neg e]
    obtain ⟨v, v1, v2, v3⟩ := I.tt p (by omega) q
    exact ⟨v, v1, by omega, by rw [hOf_old v2]; exact v3⟩
  ·show 0 < (x.l ++ [y]).length ∧ enN (hOf (x.l ++ [y]) ((x.l ++ [y]).length - 1)).kd = true
   refine ⟨by omega, ?_⟩
   rw [ll, Nat.add_sub_cancel, hOf_new, yk, show i = n - 1 by omega]
   exact B.la
theorem kinv_all {count : Int} {h : Nat → ON} {n : Nat} {sy : Nat → Bool} (B : Blk count h n) (ks : ∀ i, (h i).k < 4294967296) (hy : ∀ i q, i < n → sy i = true → q < tkN (h i).kd → sy (arg (h i) q) = true) (hz : sy (n - 1) = true) : ∀ i, i ≤ n → KInv count h sy n i (keS h sy i)
 | 0, _ => kinv_zero count h sy n B.n0
 | i + 1, hi => kinv_step B ks hy hz (kinv_all B ks hy hz i (by omega)) (by omega)
theorem ned_blk {count : Int} {h : Nat → ON} {n : Nat} (B : Blk count h n) (ks : ∀ i, (h i).k < 4294967296) : Blk count (hOf (keS h (syF h n) n).l) (keS h (syF h n) n).l.length ∧ ∀ i, (hOf (keS h (syF h n) n).l i).k < 4294967296 := by
 have I := kinv_all B ks (fun i q hi hs hq => sy_arg B hi hs hq) (sy_last B) n (Nat.le_refl _)
 have hla := I.la rfl
 exact ⟨⟨hla.1, Nat.le_trans (keS_len h (syF h n) n) B.n1, I.lok.loc, I.lok.ar, fun i hi q => (I.en i hi q).2, hla.2⟩, I.lok.ks⟩
theorem g_ned {count bytes : Int} {l : List ON} (g : G count bytes l) : G count bytes (nedL l) := by
 obtain ⟨h1, h2, h3⟩ := (G_iff count bytes l).1 g
 exact (G_iff count bytes (nedL l)).2 ⟨h1, ned_blk h2 h3⟩
def mu : List ON → Nat
 | [] => 0
 | o :: l => 3 + wt o.kd + mu l
theorem mu_app : ∀ (l : List ON) (y : ON), mu (l ++ [y]) = mu l + (3 + wt y.kd)
 | [], y => by show 3 + wt y.kd + 0 = 0 + (3 + wt y.kd); omega
 | o :: l, y => by
  show 3 + wt o.kd + mu (l ++ [y]) = 3 + wt o.kd + mu l + _
  rw [mu_app l y]; omega
def pre (h : Nat → ON) : Nat → Nat
 | 0 => 0
 | i + 1 => pre h i + (3 + wt (h i).kd)
theorem pre_lt (h : Nat → ON) {m : Nat} : ∀ d, pre h m < pre h (m + 1 + d)
 | 0 => by show pre h m < pre h m + _; omega
 | d + 1 => by
  have := pre_lt h (m := m) d
  show pre h m < pre h (m + 1 + d) + _
  omega
theorem list_ext {l : List ON} {l' : List ON} (hl : l.length = l'.length) (h : ∀ j, j < l.length → hOf l j = hOf l' j) : l = l' := by
 apply List.ext_getElem hl
 intro i hi hi'
 have := h i hi
 unfold hOf at this
 simpa [List.getD_eq_getElem?_getD, List.getElem?_eq_getElem hi, List.getElem?_eq_getElem hi'] using this
theorem mu_pre : ∀ (l : List ON) (h : Nat → ON), (∀ j, j < l.length → hOf l j = h j) → mu l = pre h l.length := by
 intro l
 induction hn : l.length generalizing l with
 | zero => 
  intro h _
  have : l = [] := List.length_eq_zero_iff.1 hn
  rw [this]; rfl
 | succ n ih =>
  intro h hh
  have hne : l ≠ [] := fun e => by rw [e] at hn; cases hn
  have e := List.dropLast_concat_getLast hne
  generalize hd : l.dropLast = d at *
  generalize ht : l.getLast hne = t at *
  have dl : d.length = n := by rw [← hd]; simp [hn]
  subst e
  rw [mu_app, ih d dl h (fun j hj => by
   have := hh j (by omega)
   rwa [hOf_old (by omega)] at this)]
  have h1 := hh n (by omega)
  rw [← dl, hOf_new] at h1
  show _ = pre h n + (3 + wt (h n).kd)
  rw [← dl, ← h1]
structure MA (h : Nat → ON) (i : Nat) (x : TS) : Prop where
 lf : x.s.lft = false
 len : x.s.l.length = i
 hs : ∀ j, j < i → hOf x.s.l j = h j
 tp : ∀ p, p < i → x.t p = some p
theorem MA.mu {h : Nat → ON} {i : Nat} {x : TS} (a : MA h i x) : mu x.s.l = pre h i := by
 have := mu_pre x.s.l h (fun j hj => a.hs j (by rw [← a.len]; exact hj))
 rwa [a.len] at this
def Md (h : Nat → ON) (n i : Nat) (x : TS) : Prop := MA h i x ∨ mu x.s.l < pre h i ∨ (x.s.lft = true ∧ ∃ m, m < n ∧ mu x.s.l ≤ pre h m)
theorem md_zero (h : Nat → ON) (n : Nat) : Md h n 0 (runS h 0) := .inl ⟨rfl, rfl, fun j hj => absurd hj (Nat.not_lt_zero _), fun j hj => absurd hj (Nat.not_lt_zero _)⟩
theorem ma_ren {count : Int} {h : Nat → ON} {n i : Nat} {x : TS} (B : Blk count h n) (hi : i < n) (a : MA h i x) : ren (h i) x.t = h i := ren_id _ _ fun q hq => a.tp _ (B.ar i hi q hq).1
theorem md_step {count : Int} {h : Nat → ON} {n i : Nat} (B : Blk count h n) (ks : ∀ i, (h i).k < 4294967296) (hc : 0 ≤ count) (hi : i < n) (m : Md h n i (runS h i)) : Md h n (i + 1) (runS h (i + 1)) ∧ (MA h (i + 1) (runS h (i + 1)) → MA h i (runS h i)) := by
 have I := inv_all B ks hc i (by omega)
 have pn : pre h (i + 1) = pre h i + (3 + wt (h i).kd) := rfl
 cases hl : (runS h i).s.lft with
 | true =>
  have e : runS h (i + 1) = runS h i := by show (if (runS h i).s.lft then _ else _) = _; rw [if_pos hl]
  rw [e]
  refine ⟨?_, fun a => ?_⟩
  ·rcases m with a | b | c
   ·rw [a.lf] at hl; cases hl
   ·exact .inr (.inl (by omega))
   ·exact .inr (.inr c)
  ·rw [a.lf] at hl; cases hl
 | false =>
  have P := inv_pok B ks I hi hl
  have D := dr_do count _ _ P hc
  rw [runS_next h i hl]
  generalize hx : runS h i = x at *
  show Md h n (i + 1) ⟨(doS x.s (ren (h i) x.t)).1, upd x.t i (doS x.s (ren (h i) x.t)).2⟩ ∧ (MA h (i + 1) ⟨(doS x.s (ren (h i) x.t)).1, upd x.t i (doS x.s (ren (h i) x.t)).2⟩ → MA h i x)
  generalize hr : doS x.s (ren (h i) x.t) = r at *
  have key : Md h n (i + 1) ⟨r.1, upd x.t i r.2⟩ ∧ (¬ MA h i x → mu r.1.l < pre h (i + 1)) := by
   rcases D.lay with ⟨e1, e2, e3⟩ | ⟨y, y1, y2, y3, y4, y5, y6, y7, y8, y9, y10⟩
   ·have hm : mu r.1.l < pre h (i + 1) := by
     rw [e1]
     rcases m with a | b | c
     ·have := a.mu; omega
     ·omega
     ·rw [hl] at c; exact absurd c.1 (by decide)
    exact ⟨.inr (.inl hm), fun _ => hm⟩
   ·have w9 : wt y.kd ≤ wt (h i).kd := y9
    have hm : mu r.1.l = mu x.s.l + (3 + wt y.kd) := by rw [y1, mu_app]
    rcases m with a | b | c
    ·refine ⟨?_, fun q => absurd a q⟩
     have am := a.mu
     by_cases e : wt y.kd = wt (h i).kd
     ·rcases y10 e with ⟨z1, z2⟩ | ⟨z1, z2⟩
      ·rw [ma_ren B hi a] at z1
       refine .inl ⟨z2.trans hl, by show r.1.l.length = i + 1; rw [y1]; simp [a.len], fun j hj => ?_, fun p hp => ?_⟩
       ·show hOf r.1.l j = h j
        rw [y1]
        by_cases ej : j < i
        ·rw [hOf_old (by rw [a.len]; exact ej)]; exact a.hs j ej
        ·have ej : j = x.s.l.length := by rw [a.len]; omega
         rw [ej, hOf_new, z1, a.len]
       ·show upd x.t i r.2 p = some p
        unfold upd
        by_cases ep : p = i
        ·rw [if_pos ep, y5, a.len, ep]
        ·rw [if_neg ep]; exact a.tp p (by omega)
      ·have z2' : enN (h i).kd = false := z2
       refine .inr (.inr ⟨z1, i + 1, ?_, by show mu r.1.l ≤ _; omega⟩)
       by_cases ei : i + 1 = n
       ·have := B.la
        rw [show n - 1 = i by omega, z2'] at this
        cases this
       ·omega
     ·exact .inr (.inl (by show mu r.1.l < _; omega))
    ·have hm2 : mu r.1.l < pre h (i + 1) := by omega
     exact ⟨.inr (.inl hm2), fun _ => hm2⟩
    ·rw [hl] at c; exact absurd c.1 (by decide)
  refine ⟨key.1, fun a => ?_⟩
  refine Classical.byContradiction fun q => ?_
  have h1 := key.2 q
  have h2 : mu r.1.l = pre h (i + 1) := a.mu
  omega
theorem md_all {count : Int} {h : Nat → ON} {n : Nat} (B : Blk count h n) (ks : ∀ i, (h i).k < 4294967296) (hc : 0 ≤ count) : ∀ i, i ≤ n → Md h n i (runS h i)
 | 0, _ => md_zero h n
 | i + 1, hi => (md_step B ks hc (by omega) (md_all B ks hc i (by omega))).1
theorem set_mu {count : Int} {l : List ON} (B : Blk count (hOf l) l.length) (ks : ∀ i, (hOf l i).k < 4294967296) (hc : 0 ≤ count) : MA (hOf l) l.length (runS (hOf l) l.length) ∨ mu (setL l) < mu l := by
 have ml : mu l = pre (hOf l) l.length := mu_pre l (hOf l) fun _ _ => rfl
 rcases md_all B ks hc l.length (Nat.le_refl _) with a | b | ⟨-, m, m1, m2⟩
 ·exact .inl a
 ·exact .inr (by rw [ml]; exact b)
 ·refine .inr (Nat.lt_of_le_of_lt m2 ?_)
  have := pre_lt (hOf l) (m := m) (l.length - m - 1)
  rw [show m + 1 + (l.length - m - 1) = l.length by omega] at this
  rw [ml]; exact this
theorem ma_eq {l : List ON} (a : MA (hOf l) l.length (runS (hOf l) l.length)) : setL l = l := by
 have hl : (setL l).length = l.length := a.len
 exact list_ext hl fun j hj => a.hs j (by omega)
structure KA (h : Nat → ON) (sy : Nat → Bool) (i : Nat) (x : KS) : Prop where
 len : x.l.length = i
 hs : ∀ j, j < i → hOf x.l j = h j
 tp : ∀ p, p < i → x.t p = some p
 sy : ∀ p, p < i → sy p = true
theorem KA.mu {h : Nat → ON} {sy : Nat → Bool} {i : Nat} {x : KS} (a : KA h sy i x) : mu x.l = pre h i := by
 have := mu_pre x.l h (fun j hj => a.hs j (by rw [← a.len]; exact hj))
 rwa [a.len] at this
theorem ka_all {count : Int} {h : Nat → ON} {n : Nat} (B : Blk count h n) (sy : Nat → Bool) : ∀ i, i ≤ n → KA h sy i (keS h sy i) ∨ mu (keS h sy i).l < pre h i
 | 0, _ => .inl ⟨rfl, fun j hj => absurd hj (Nat.not_lt_zero _), fun j hj => absurd hj (Nat.not_lt_zero _), fun j hj => absurd hj (Nat.not_lt_zero _)⟩
 | i + 1, hi => by
  have ih := ka_all B sy i (by omega)
  have pn : pre h (i + 1) = pre h i + (3 + wt (h i).kd) := rfl
  cases hs : sy i with
  | false =>
   have e : keS h sy (i + 1) = keS h sy i := by show (if sy i then _ else _ : KS) = _; rw [if_neg (by rw [hs]; decide)]
   rw [e]
   refine .inr ?_
   rcases ih with a | b
   ·have := a.mu; omega
   ·omega
  | true =>
   generalize hx : keS h sy i = x at *
   have e : keS h sy (i + 1) = ⟨x.l ++ [ren (h i) (upd x.t i (some x.l.length))], upd x.t i (some x.l.length)⟩ := by show (if sy i then _ else _ : KS) = _; rw [if_pos hs, hx]
   rw [e]
   rcases ih with a | b
   ·have er : ren (h i) (upd x.t i (some x.l.length)) = h i := ren_id _ _ fun q hq => by
     have := (B.ar i (by omega) q hq).1
     unfold upd
     rw [if_neg (by omega)]
     exact a.tp _ this
    rw [er]
    refine .inl ⟨by show (x.l ++ [h i]).length = _; simp [a.len], fun j hj => ?_, fun p hp => ?_, fun p hp => ?_⟩
    ·show hOf (x.l ++ [h i]) j = h j
     by_cases ej : j < i
     ·rw [hOf_old (by rw [a.len]; exact ej)]; exact a.hs j ej
     ·have ej : j = x.l.length := by rw [a.len]; omega
      rw [ej, hOf_new, a.len]
    ·show upd x.t i (some x.l.length) p = some p
     unfold upd
     by_cases ep : p = i
     ·rw [if_pos ep, a.len, ep]
     ·rw [if_neg ep]; exact a.tp p (by omega)
    ·by_cases ep : p = i
     ·rw [ep]; exact hs
     ·exact a.sy p (by omega)
   ·refine .inr ?_
    show mu (x.l ++ [ren (h i) (upd x.t i (some x.l.length))]) < _
    rw [mu_app]
    show mu x.l + (3 + wt (h i).kd) < _
    omega
theorem ned_mu {count : Int} {l : List ON} (B : Blk count (hOf l) l.length) : (nedL l = l ∧ ∀ p, p < l.length → syF (hOf l) l.length p = true) ∨ mu (nedL l) < mu l := by
 have ml : mu l = pre (hOf l) l.length := mu_pre l (hOf l) fun _ _ => rfl
 rcases ka_all B (syF (hOf l) l.length) l.length (Nat.le_refl _) with a | b
 ·have hl : (nedL l).length = l.length := a.len
  exact .inl ⟨list_ext hl fun j hj => a.hs j (by omega), a.sy⟩
 ·exact .inr (by rw [ml]; exact b)
theorem good (count bytes : Int) : GoodP (G count bytes) mu := by
 refine ⟨fun g => ?_, fun g => ?_, fun g => ?_, fun g => ?_, g_set, g_ned, fun g hp => ?_⟩
 ·exact ((G_iff _ _ _).1 g).2.1.n0
 ·exact ((G_iff _ _ _).1 g).2.1.n1
 ·obtain ⟨h1, h2, h3⟩ := (G_iff _ _ _).1 g
  exact set_ok h2 h3 h1.1.1 h1.1.2
 ·exact ne_ok ((G_iff _ _ _).1 g).2.1
 ·obtain ⟨h1, h2, h3⟩ := (G_iff _ _ _).1 g
  have k2 := ((G_iff _ _ _).1 (g_set g)).2.1
  unfold pass at hp ⊢
  rcases set_mu h2 h3 h1.1.1 with a | b
  ·rw [ma_eq a] at hp ⊢
   rcases ned_mu h2 with ⟨c, -⟩ | d
   ·exact absurd c hp
   ·exact d
  ·rcases ned_mu k2 with ⟨c, -⟩ | d
   ·rw [c]; exact b
   ·omega
end Go.Proofs.Ytkgbjpdoigdjnab
