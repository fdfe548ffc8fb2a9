import Derived.Test.YtkgbjpdoigdjnabPT
set_option linter.unusedVariables false
set_option linter.unusedSimpArgs false
namespace Go.Proofs.Ytkgbjpdoigdjnab
open Go.RowKit
open Go.Maps
set_option maxRecDepth 100000
def gvN (k : Nat) : Bool := (rrT k).gives
def enN (k : Nat) : Bool := (rrT k).ends
structure Loc (count : Int) (o : ON) : Prop where
 k1 : 1 ≤ o.kd
 k2 : o.kd ≤ 17
 wl : (rrT o.kd).lo ≤ (o.w : Int)
 wh : (o.w : Int) ≤ (rrT o.kd).hi
 fa : tkN o.kd < 1 → o.a = 0
 fb : tkN o.kd < 2 → o.kd ≠ 14 → o.b = 0
 fc : tkN o.kd < 3 → o.c = 0
 fk : (flT o.kd).hk = false → o.k = 0
 fn : (flT o.kd).hn = false → o.n = 0
 fg : o.kd = 14 → o.b ≤ 4294967295
 nc : (o.n : Int) ≤ count
theorem rr_nat (k : Nat) : rr (k : Int) = rrT k := by unfold rr; rw [Int.toNat_natCast]
theorem eop_ok (o : ON) : eOp (rO o) = false ↔ (1 ≤ o.kd ∧ o.kd ≤ 17) ∧ (rrT o.kd).lo ≤ (o.w : Int) ∧ (o.w : Int) ≤ (rrT o.kd).hi := by
 unfold eOp
 have e : (rO o).kind = (o.kd : Int) := rfl
 have e2 : (rO o).w = (o.w : Int) := rfl
 rw [e, e2, rr_nat]
 simp only [Bool.or_eq_false_iff, Bool.not_eq_false', decide_eq_false_iff_not, isK_iff]
 omega
theorem fld_ok (count : Int) (o : ON) (h1 : 1 ≤ o.kd) (h2 : o.kd ≤ 17) : fieldBad (flT o.kd) (rO o) count = false ↔ (tkN o.kd < 1 → o.a = 0) ∧ (tkN o.kd < 2 → o.kd ≠ 14 → o.b = 0) ∧ (tkN o.kd < 3 → o.c = 0) ∧ ((flT o.kd).hk = false → o.k = 0) ∧ ((flT o.kd).hn = false → o.n = 0) ∧ (o.kd = 14 → o.b ≤ 4294967295) ∧ (o.n : Int) ≤ count := by
 obtain ⟨kd, w, a, b, c, k, n⟩ := o
 simp only at h1 h2
 unfold fieldBad bd bg rO
 simp only [Bool.or_eq_false_iff, Bool.and_eq_false_iff, bne_eq_false_iff_eq, Bool.not_eq_false', decide_eq_false_iff_not, decide_eq_true_eq]
 rcases (by omega : kd = 1 ∨ kd = 2 ∨ kd = 3 ∨ kd = 4 ∨ kd = 5 ∨ kd = 6 ∨ kd = 7 ∨ kd = 8 ∨ kd = 9 ∨ kd = 10 ∨ kd = 11 ∨ kd = 12 ∨ kd = 13 ∨ kd = 14 ∨ kd = 15 ∨ kd = 16 ∨ kd = 17) with rfl | rfl | rfl | rfl | rfl | rfl | rfl | rfl | rfl | rfl | rfl | rfl | rfl | rfl | rfl | rfl | rfl <;> simp [flT, tkN, ruT] <;> omega
theorem tk_ok (h : Nat → ON) (i : Nat) (o : ON) (h1 : 1 ≤ o.kd) (h2 : o.kd ≤ 17) : takenBad (flT o.kd) (rO o) (fun i => rO (h i)) i = false ↔ ∀ q, q < tkN o.kd → arg o q < i ∧ gvN (h (arg o q)).kd = true := by
 have hg : ∀ t : Nat, gvn (fun i => rO (h i)) i (t : Int) = (decide (t < i) && gvN (h t).kd) := fun t => by
  unfold gvn gvN
  rw [Int.toNat_natCast]
  show (decide (0 ≤ (t : Int) ∧ (t : Int) < (i : Int)) && (rr ((h t).kd : Int)).gives) = _
  rw [rr_nat]
  congr 1
  apply Bool.eq_iff_iff.2
  simp only [decide_eq_true_eq]
  omega
 obtain ⟨kd, w, a, b, c, k, n⟩ := o
 simp only at h1 h2
 have ha : gvn (fun i => rO (h i)) i (rO ⟨kd, w, a, b, c, k, n⟩).a = (decide (a < i) && gvN (h a).kd) := hg a
 have hb : gvn (fun i => rO (h i)) i (rO ⟨kd, w, a, b, c, k, n⟩).b = (decide (b < i) && gvN (h b).kd) := hg b
 have hc : gvn (fun i => rO (h i)) i (rO ⟨kd, w, a, b, c, k, n⟩).c = (decide (c < i) && gvN (h c).kd) := hg c
 unfold takenBad tk
 rw [ha, hb, hc]
 have all0 : ∀ (P : Nat → Prop), (∀ q, q < 0 → P q) ↔ True := fun P => ⟨fun _ => trivial, fun _ q hq => absurd hq (Nat.not_lt_zero _)⟩
 have all1 : ∀ (P : Nat → Prop), (∀ q, q < 1 → P q) ↔ P 0 := fun P => ⟨fun h => h 0 (by omega), fun h q hq => by rcases (by omega : q = 0) with rfl; exact h⟩
 have all2 : ∀ (P : Nat → Prop), (∀ q, q < 2 → P q) ↔ P 0 ∧ P 1 := fun P => ⟨fun h => ⟨h 0 (by omega), h 1 (by omega)⟩, fun h q hq => by (rcases (by omega : q = 0 ∨ q = 1) with rfl | rfl <;> first | exact h.1 | exact h.2)⟩
 have all3 : ∀ (P : Nat → Prop), (∀ q, q < 3 → P q) ↔ P 0 ∧ P 1 ∧ P 2 := fun P => ⟨fun h => ⟨h 0 (by omega), h 1 (by omega), h 2 (by omega)⟩, fun h q hq => by (rcases (by omega : q = 0 ∨ q = 1 ∨ q = 2) with rfl | rfl | rfl <;> first | exact h.1 | exact h.2.1 | exact h.2.2)⟩
 rcases (by omega : kd = 1 ∨ kd = 2 ∨ kd = 3 ∨ kd = 4 ∨ kd = 5 ∨ kd = 6 ∨ kd = 7 ∨ kd = 8 ∨ kd = 9 ∨ kd = 10 ∨ kd = 11 ∨ kd = 12 ∨ kd = 13 ∨ kd = 14 ∨ kd = 15 ∨ kd = 16 ∨ kd = 17) with rfl | rfl | rfl | rfl | rfl | rfl | rfl | rfl | rfl | rfl | rfl | rfl | rfl | rfl | rfl | rfl | rfl
 ·show _ ↔ ∀ q, q < 0 → _
  rw [all0]
  simp [flT, arg, and_assoc]
 ·show _ ↔ ∀ q, q < 0 → _
  rw [all0]
  simp [flT, arg, and_assoc]
 ·show _ ↔ ∀ q, q < 1 → _
  rw [all1]
  simp [flT, arg, and_assoc]
 ·show _ ↔ ∀ q, q < 2 → _
  rw [all2]
  simp [flT, arg, and_assoc]
 ·show _ ↔ ∀ q, q < 1 → _
  rw [all1]
  simp [flT, arg, and_assoc]
 ·show _ ↔ ∀ q, q < 3 → _
  rw [all3]
  simp [flT, arg, and_assoc]
 ·show _ ↔ ∀ q, q < 3 → _
  rw [all3]
  simp [flT, arg, and_assoc]
 ·show _ ↔ ∀ q, q < 1 → _
  rw [all1]
  simp [flT, arg, and_assoc]
 ·show _ ↔ ∀ q, q < 1 → _
  rw [all1]
  simp [flT, arg, and_assoc]
 ·show _ ↔ ∀ q, q < 2 → _
  rw [all2]
  simp [flT, arg, and_assoc]
 ·show _ ↔ ∀ q, q < 0 → _
  rw [all0]
  simp [flT, arg, and_assoc]
 ·show _ ↔ ∀ q, q < 1 → _
  rw [all1]
  simp [flT, arg, and_assoc]
 ·show _ ↔ ∀ q, q < 1 → _
  rw [all1]
  simp [flT, arg, and_assoc]
 ·show _ ↔ ∀ q, q < 0 → _
  rw [all0]
  simp [flT, arg, and_assoc]
 ·show _ ↔ ∀ q, q < 0 → _
  rw [all0]
  simp [flT, arg, and_assoc]
 ·show _ ↔ ∀ q, q < 1 → _
  rw [all1]
  simp [flT, arg, and_assoc]
 ·show _ ↔ ∀ q, q < 0 → _
  rw [all0]
  simp [flT, arg, and_assoc]
theorem op_ok (count : Int) (n : Nat) (h : Nat → ON) (i : Nat) : opErr count n (fun i => rO (h i)) i = 0 ↔ Loc count (h i) ∧ (∀ q, q < tkN (h i).kd → arg (h i) q < i ∧ gvN (h (arg (h i) q)).kd = true) ∧ (enN (h i).kd = true → i + 1 = n) := by
 unfold opErr
 have e : ((rO (h i)).kind).toNat = (h i).kd := Int.toNat_natCast _
 have e3 : (rr (rO (h i)).kind).ends = enN (h i).kd := by show (rr ((h i).kd : Int)).ends = _; rw [rr_nat]; rfl
 simp only [e, e3]
 constructor
 ·intro hq
  by_cases h1 : eOp (rO (h i)) = true
  ·rw [if_pos h1] at hq; exact absurd hq (by decide)
  rw [if_neg h1] at hq
  have h1' : eOp (rO (h i)) = false := by simpa using h1
  obtain ⟨⟨k1, k2⟩, wl, wh⟩ := (eop_ok (h i)).1 h1'
  by_cases h2 : fieldBad (flT (h i).kd) (rO (h i)) count = true
  ·rw [if_pos h2] at hq; exact absurd hq (by decide)
  rw [if_neg h2] at hq
  have h2' : fieldBad (flT (h i).kd) (rO (h i)) count = false := by simpa using h2
  obtain ⟨fa, fb, fc, fk, fn, fg, nc⟩ := (fld_ok count (h i) k1 k2).1 h2'
  by_cases h3 : takenBad (flT (h i).kd) (rO (h i)) (fun i => rO (h i)) i = true
  ·rw [if_pos h3] at hq; exact absurd hq (by decide)
  rw [if_neg h3] at hq
  have h3' : takenBad (flT (h i).kd) (rO (h i)) (fun i => rO (h i)) i = false := by simpa using h3
  refine ⟨⟨k1, k2, wl, wh, fa, fb, fc, fk, fn, fg, nc⟩, (tk_ok h i (h i) k1 k2).1 h3', fun he => ?_⟩
  by_cases h4 : i + 1 = n
  ·exact h4
  ·rw [if_pos (by rw [he]; simpa using h4)] at hq; exact absurd hq (by decide)
 ·rintro ⟨L, ht, he⟩
  rw [if_neg (by rw [(eop_ok (h i)).2 ⟨⟨L.k1, L.k2⟩, L.wl, L.wh⟩]; decide), if_neg (by rw [(fld_ok count (h i) L.k1 L.k2).2 ⟨L.fa, L.fb, L.fc, L.fk, L.fn, L.fg, L.nc⟩]; decide), if_neg (by rw [(tk_ok h i (h i) L.k1 L.k2).2 ht]; decide)]
  by_cases h4 : enN (h i).kd = true
  ·rw [if_neg (by have := he h4; simp [this])]
  ·rw [if_neg (by simp [h4])]
theorem scan_ok (count : Int) (n : Nat) (f : Nat → OpR) : ∀ m i, (scan count n f m i).1 = 0 ↔ (∀ j, i ≤ j → j < i + m → opErr count n f j = 0) ∧ (endR n f).1 = 0
 | 0, i => by
  show (endR n f).1 = 0 ↔ _
  exact ⟨fun h => ⟨fun j h1 h2 => absurd h2 (by omega), h⟩, fun h => h.2⟩
 | m + 1, i => by
  show (if opErr count n f i = 0 then scan count n f m (i + 1) else (opErr count n f i, (i : Int))).1 = 0 ↔ _
  by_cases h0 : opErr count n f i = 0
  ·rw [if_pos h0, scan_ok count n f m (i + 1)]
   constructor
   ·rintro ⟨h1, h2⟩
    exact ⟨fun j hj hj2 => by
     by_cases e : j = i
     ·rw [e]; exact h0
     ·exact h1 j (by omega) (by omega), h2⟩
   ·rintro ⟨h1, h2⟩
    exact ⟨fun j hj hj2 => h1 j (by omega) (by omega), h2⟩
  ·rw [if_neg h0]
   exact ⟨fun h => absurd h h0, fun h => h.1 i (Nat.le_refl _) (by omega)⟩
theorem scan_zero (count : Int) (n : Nat) (f : Nat → OpR) : ∀ m i, (scan count n f m i).1 = 0 → scan count n f m i = (0, 0)
 | 0, i, h => by
  have h' : (endR n f).1 = 0 := h
  show endR n f = (0, 0)
  unfold endR at h' ⊢
  split
  ·rename_i hq
   rw [if_pos hq] at h'
   have q' : (7 : Int) = 0 := h'
   exact absurd q' (by decide)
  ·rfl
 | m + 1, i, h => by
  have h' : (if opErr count n f i = 0 then scan count n f m (i + 1) else (opErr count n f i, (i : Int))).1 = 0 := h
  show (if opErr count n f i = 0 then scan count n f m (i + 1) else (opErr count n f i, (i : Int))) = (0, 0)
  by_cases h0 : opErr count n f i = 0
  ·rw [if_pos h0] at h' ⊢; exact scan_zero count n f m (i + 1) h'
  ·rw [if_neg h0] at h'; exact absurd h' h0
structure Blk (count : Int) (h : Nat → ON) (n : Nat) : Prop where
 n0 : 0 < n
 n1 : n ≤ 2048
 loc : ∀ i, i < n → Loc count (h i)
 ar : ∀ i, i < n → ∀ q, q < tkN (h i).kd → arg (h i) q < i ∧ gvN (h (arg (h i) q)).kd = true
 en : ∀ i, i < n → enN (h i).kd = true → i + 1 = n
 la : enN (h (n - 1)).kd = true
theorem end_ok (n : Nat) (h : Nat → ON) : (endR n (fun i => rO (h i))).1 = 0 ↔ 0 < n ∧ enN (h (n - 1)).kd = true := by
 unfold endR
 have e3 : (rr (rO (h (n - 1))).kind).ends = enN (h (n - 1)).kd := by show (rr ((h (n - 1)).kd : Int)).ends = _; rw [rr_nat]; rfl
 rw [e3]
 by_cases hq : n = 0 ∨ enN (h (n - 1)).kd = false
 ·rw [if_pos hq]
  refine ⟨fun q => ?_, fun ⟨h1, h2⟩ => ?_⟩
  ·have q' : (7 : Int) = 0 := q
   exact absurd q' (by decide)
  ·rcases hq with e | e
   ·omega
   ·rw [h2] at e; cases e
 ·rw [if_neg hq]
  refine ⟨fun _ => ⟨by omega, ?_⟩, fun _ => rfl⟩
  cases hb : enN (h (n - 1)).kd
  ·exact absurd (.inr hb) hq
  ·rfl
theorem chk_ok (count bytes : Int) (n : Nat) (h : Nat → ON) : (checkF count bytes n (fun i => rO (h i))).1 = 0 ↔ ((0 ≤ count ∧ count ≤ 64) ∧ (0 ≤ bytes ∧ bytes ≤ 384)) ∧ Blk count h n := by
 unfold checkF
 by_cases h1 : 2048 < n
 ·rw [if_pos h1]
  refine ⟨fun q => ?_, fun h => by have := h.2.n1; omega⟩
  have q' : (5 : Int) = 0 := q
  exact absurd q' (by decide)
 rw [if_neg h1]
 by_cases h2 : (0 ≤ count ∧ count ≤ 64) ∧ (0 ≤ bytes ∧ bytes ≤ 384)
 ·rw [if_pos h2, scan_ok, end_ok]
  constructor
  ·rintro ⟨h3, h4, h5⟩
   exact ⟨h2, h4, by omega, fun i hi => ((op_ok count n h i).1 (h3 i (Nat.zero_le _) (by omega))).1, fun i hi => ((op_ok count n h i).1 (h3 i (Nat.zero_le _) (by omega))).2.1, fun i hi => ((op_ok count n h i).1 (h3 i (Nat.zero_le _) (by omega))).2.2, h5⟩
  ·rintro ⟨-, B⟩
   exact ⟨fun j _ hj => (op_ok count n h j).2 ⟨B.loc j (by omega), B.ar j (by omega), B.en j (by omega)⟩, B.n0, B.la⟩
 ·rw [if_neg h2]
  refine ⟨fun q => ?_, fun h => absurd h.1 h2⟩
  have q' : (4 : Int) = 0 := q
  exact absurd q' (by decide)
theorem chk_zero (count bytes : Int) (n : Nat) (f : Nat → OpR) (h : (checkF count bytes n f).1 = 0) : checkF count bytes n f = (0, 0) := by
 unfold checkF at h ⊢
 by_cases h1 : 2048 < n
 ·rw [if_pos h1] at h
  have q' : (5 : Int) = 0 := h
  exact absurd q' (by decide)
 rw [if_neg h1] at h ⊢
 by_cases h2 : (0 ≤ count ∧ count ≤ 64) ∧ (0 ≤ bytes ∧ bytes ≤ 384)
 ·rw [if_pos h2] at h ⊢; exact scan_zero count n f n 0 h
 ·rw [if_neg h2] at h
  have q' : (4 : Int) = 0 := h
  exact absurd q' (by decide)
theorem G_iff (count bytes : Int) (l : List ON) : G count bytes l ↔ ((0 ≤ count ∧ count ≤ 64) ∧ (0 ≤ bytes ∧ bytes ≤ 384)) ∧ Blk count (hOf l) l.length ∧ ∀ i, (hOf l i).k < 4294967296 := by
 constructor
 ·intro g
  have h := (chk_ok count bytes l.length (hOf l)).1 (by rw [g.ck])
  exact ⟨h.1, h.2, g.ks⟩
 ·rintro ⟨h1, h2, h3⟩
  exact ⟨chk_zero _ _ _ _ ((chk_ok count bytes l.length (hOf l)).2 ⟨h1, h2⟩), h3⟩
def Val (l : List ON) (v : Nat) : Prop := v < l.length ∧ gvN (hOf l v).kd = true
theorem hOf_old {l : List ON} {o : ON} {j : Nat} (h : j < l.length) : hOf (l ++ [o]) j = hOf l j := by
 unfold hOf
 rw [List.getD_eq_getElem?_getD, List.getD_eq_getElem?_getD, List.getElem?_append_left h]
theorem hOf_new (l : List ON) (o : ON) : hOf (l ++ [o]) l.length = o := by
 unfold hOf
 rw [List.getD_eq_getElem?_getD, List.getElem?_append_right (Nat.le_refl _)]
 simp
theorem Val.app {l : List ON} {v : Nat} (h : Val l v) (o : ON) : Val (l ++ [o]) v := by
 obtain ⟨h1, h2⟩ := h
 exact ⟨by rw [List.length_append]; exact Nat.lt_of_lt_of_le h1 (Nat.le_add_right _ _), by rw [hOf_old h1]; exact h2⟩
theorem Val.new (l : List ON) {o : ON} (h : gvN o.kd = true) : Val (l ++ [o]) l.length := ⟨by simp, by rw [hOf_new]; exact h⟩
def wt (k : Nat) : Nat := if k = 17 then 2 else if isP k && decide (k ≠ 1) then 1 else 0
structure DR (count : Int) (s : SE) (o : ON) (r : SE × Option Nat) : Prop where
 lay : (r.1.l = s.l ∧ r.1.lft = s.lft ∧ enN o.kd = false) ∨ ∃ y, r.1.l = s.l ++ [y] ∧ Loc count y ∧ (∀ q, q < tkN y.kd → Val s.l (arg y q)) ∧ y.k < 4294967296 ∧ r.2 = some s.l.length ∧ (enN y.kd = true → y = o ∨ r.1.lft = true) ∧ (r.1.lft = true → s.lft = true ∨ enN y.kd = true) ∧ (enN o.kd = true → y = o ∧ r.1.lft = s.lft) ∧ wt y.kd ≤ wt o.kd ∧ (wt y.kd = wt o.kd → y = o ∧ r.1.lft = s.lft ∨ r.1.lft = true ∧ enN o.kd = false)
 val : gvN o.kd = true → ∃ v, r.2 = some v ∧ Val r.1.l v
 sl : (∀ a v, s.sl a = some v → Val s.l v) → ∀ a v, r.1.sl a = some v → Val r.1.l v
 nw : (∀ v, s.now = some v → Val s.l v) → ∀ v, r.1.now = some v → Val r.1.l v
structure POk (count : Int) (s : SE) (o : ON) : Prop where
 loc : Loc count o
 k : o.k < 4294967296
 ar : ∀ q, q < tkN o.kd → Val s.l (arg o q)
 sl : ∀ a v, s.sl a = some v → Val s.l v
 nw : ∀ v, s.now = some v → Val s.l v
 ks : ∀ i, (hOf s.l i).k < 4294967296
theorem dr_lay (count : Int) (s : SE) (o : ON) (h : POk count s o) : DR count s o ({ s with l := s.l ++ [o] }, some s.l.length) :=
 ⟨.inr ⟨o, rfl, h.loc, h.ar, h.k, rfl, fun _ => .inl rfl, fun q => .inl q, fun _ => ⟨rfl, rfl⟩, Nat.le_refl _, fun _ => .inl ⟨rfl, rfl⟩⟩, fun q => ⟨_, rfl, Val.new _ q⟩, fun q a v e => (q a v e).app o, fun q v e => (q v e).app o⟩
theorem isP_k {k : Nat} (h : isP k = true) : k = 1 ∨ k = 4 ∨ k = 5 ∨ k = 6 ∨ k = 7 ∨ k = 8 := by simp [isP] at h; omega
theorem isP_g {k : Nat} (h : isP k = true) : gvN k = true ∧ enN k = false := by
 rcases isP_k h with rfl | rfl | rfl | rfl | rfl | rfl <;> exact ⟨rfl, rfl⟩
theorem cst_loc (count : Int) (k : Nat) (hc : 0 ≤ count) : Loc count (cstO k) := ⟨by show 1 ≤ 1; omega, by show 1 ≤ 17; omega, by show (0 : Int) ≤ ((0 : Nat) : Int); decide, by show ((0 : Nat) : Int) ≤ (0 : Int); decide, fun _ => rfl, fun _ _ => rfl, fun _ => rfl, fun h => absurd h (by show ¬ true = false; decide), fun _ => rfl, fun h => absurd h (by show ¬ 1 = 14; decide), hc⟩
theorem dr_rec (count : Int) (s : SE) (o : ON) (h : POk count s o) (hp : isP o.kd = true) (hc : 0 ≤ count) : DR count s o (recS s o) := by
 obtain ⟨hg, he⟩ := isP_g hp
 unfold recS
 by_cases h6 : o.kd = 6 ∧ isC s.l o.a = true
 ·rw [if_pos h6]
  refine ⟨.inl ⟨rfl, rfl, he⟩, fun _ => ⟨_, rfl, ?_⟩, fun q => q, fun q => q⟩
  unfold chO
  split
  ·exact h.ar 2 (by rw [h6.1]; decide)
  ·exact h.ar 1 (by rw [h6.1]; decide)
 ·rw [if_neg h6]
  have hr : Loc count (recO s o) ∧ (∀ q, q < tkN (recO s o).kd → Val s.l (arg (recO s o) q)) ∧ (recO s o).k < 4294967296 ∧ isP (recO s o).kd = true ∧ wt (recO s o).kd ≤ wt o.kd ∧ (wt (recO s o).kd = wt o.kd → recO s o = o) := by
   unfold recO
   split
   ·rename_i hC
    refine ⟨cst_loc count _ hc, fun q hq => absurd hq (by show ¬ q < 0; omega), vOf_lt o _ _ _ (h.ks _) (h.ks _) (h.ks _) h.k, rfl, by show 0 ≤ _; omega, fun e => ?_⟩
    have ht : 0 < tkN o.kd := by
     unfold ofC at hC
     simp only [Bool.and_eq_true, decide_eq_true_eq] at hC
     exact hC.1
    have e' : 0 = wt o.kd := e
    rcases isP_k hp with k | k | k | k | k | k
    ·rw [k] at ht; exact absurd ht (by decide)
    all_goals (rw [k] at e'; exact absurd e' (by decide))
   ·exact ⟨h.loc, h.ar, h.k, hp, Nat.le_refl _, fun _ => rfl⟩
  obtain ⟨r1, r2, r3, r4, r5, r6⟩ := hr
  cases hf : fnd s.l (recO s o) with
  | some j =>
   obtain ⟨hj, hj2⟩ := fnd_some hf
   exact ⟨.inl ⟨rfl, rfl, he⟩, fun _ => ⟨j, rfl, hj, by show gvN (s.l.getD j onD).kd = true; rw [hj2]; exact (isP_g r4).1⟩, fun q => q, fun q => q⟩
  | none =>
   show DR count s o ({ s with l := s.l ++ [recO s o] }, some s.l.length)
   exact ⟨.inr ⟨recO s o, rfl, r1, r2, r3, rfl, fun q => (by rw [(isP_g r4).2] at q; cases q), fun q => .inl q, fun q => (by rw [he] at q; cases q), r5, fun q => .inl ⟨r6 q, rfl⟩⟩, fun _ => ⟨_, rfl, Val.new _ (isP_g r4).1⟩, fun q a v e => (q a v e).app _, fun q v e => (q v e).app _⟩
theorem upd_some {f : Nat → Option Nat} {i a v : Nat} {x : Option Nat} (h : upd f i x a = some v) : x = some v ∨ f a = some v := by
 unfold upd at h
 split at h
 ·exact .inl h
 ·exact .inr h
theorem dr_get (count : Int) (s : SE) (o : ON) (h : POk count s o) (hk : o.kd = 2) : DR count s o (getS s o) := by
 have hg : gvN o.kd = true := by rw [hk]; rfl
 have he : enN o.kd = false := by rw [hk]; rfl
 unfold getS
 cases hs : s.sl o.w with
 | some v => exact ⟨.inl ⟨rfl, rfl, he⟩, fun _ => ⟨v, rfl, h.sl _ _ hs⟩, fun q => q, fun q => q⟩
 | none =>
  refine ⟨.inr ⟨o, rfl, h.loc, h.ar, h.k, rfl, fun _ => .inl rfl, fun q => .inl q, fun _ => ⟨rfl, rfl⟩, Nat.le_refl _, fun _ => .inl ⟨rfl, rfl⟩⟩, fun q => ⟨_, rfl, Val.new _ q⟩, fun q a v e => ?_, fun q v e => (q v e).app o⟩
  rcases upd_some e with e | e
  ·cases e; exact Val.new _ hg
  ·exact (q a v e).app o
theorem dr_put (count : Int) (s : SE) (o : ON) (h : POk count s o) (hk : o.kd = 3) : DR count s o (putS s o) := by
 have hg : gvN o.kd = false := by rw [hk]; rfl
 have he : enN o.kd = false := by rw [hk]; rfl
 unfold putS
 split
 ·exact ⟨.inl ⟨rfl, rfl, he⟩, fun q => (by rw [hg] at q; cases q), fun q => q, fun q => q⟩
 ·refine ⟨.inr ⟨o, rfl, h.loc, h.ar, h.k, rfl, fun _ => .inl rfl, fun q => .inl q, fun _ => ⟨rfl, rfl⟩, Nat.le_refl _, fun _ => .inl ⟨rfl, rfl⟩⟩, fun q => (by rw [hg] at q; cases q), fun q a v e => ?_, fun q v e => ?_⟩
  ·rcases upd_some e with e | e
   ·cases e; exact (h.ar 0 (by rw [hk]; decide)).app o
   ·exact (q a v e).app o
  ·have e' : (if 8 ≤ o.w then none else s.now) = some v := e
   split at e'
   ·cases e'
   ·exact (q v e').app o
theorem end_loc (count : Int) (o : ON) (h : Loc count o) (hk : o.kd = 12 ∨ o.kd = 13) : Loc count (endO o) ∧ tkN (endO o).kd = 0 ∧ enN (endO o).kd = true ∧ (endO o).k = o.k ∧ wt (endO o).kd = 0 := by
 unfold endO
 rcases hk with hk | hk
 ·rw [if_neg (by omega)]
  exact ⟨⟨by show 1 ≤ 15; omega, by show 15 ≤ 17; omega, by show (0 : Int) ≤ ((0 : Nat) : Int); decide, by show ((0 : Nat) : Int) ≤ (0 : Int); decide, fun _ => rfl, fun _ _ => rfl, fun _ => rfl, fun q => absurd q (by show ¬ true = false; decide), fun q => absurd q (by show ¬ true = false; decide), fun q => absurd q (by show ¬ 15 = 14; decide), h.nc⟩, rfl, rfl, rfl, rfl⟩
 ·rw [if_pos hk]
  have w1 := h.wl
  have w2 := h.wh
  rw [hk] at w1 w2
  exact ⟨⟨by show 1 ≤ 14; omega, by show 14 ≤ 17; omega, w1, w2, fun _ => rfl, fun _ q => absurd rfl q, fun _ => rfl, fun q => absurd q (by show ¬ true = false; decide), fun q => absurd q (by show ¬ true = false; decide), fun _ => by show 0 ≤ _; omega, h.nc⟩, rfl, rfl, rfl, rfl⟩
theorem dr_ask (count : Int) (s : SE) (o : ON) (h : POk count s o) (hk : o.kd = 12 ∨ o.kd = 13) : DR count s o (askS s o) := by
 have hg : gvN o.kd = false := by rcases hk with e | e <;> (rw [e]; rfl)
 have he : enN o.kd = false := by rcases hk with e | e <;> (rw [e]; rfl)
 have hw : wt o.kd = 0 := by rcases hk with e | e <;> (rw [e]; rfl)
 obtain ⟨e1, e2, e3, e4, e5⟩ := end_loc count o h.loc hk
 unfold askS
 split
 ·exact dr_lay count s o h
 ·split
  ·exact ⟨.inl ⟨rfl, rfl, he⟩, fun q => (by rw [hg] at q; cases q), fun q => q, fun q => q⟩
  ·exact ⟨.inr ⟨endO o, rfl, e1, fun q hq => (by rw [e2] at hq; omega), (by rw [e4]; exact h.k), rfl, fun _ => .inr rfl, fun _ => .inr e3, fun q => (by rw [he] at q; cases q), (by rw [e5]; omega), fun _ => .inr ⟨rfl, he⟩⟩, fun q => (by rw [hg] at q; cases q), fun q a v e => (q a v e).app _, fun q v e => (q v e).app _⟩
end Go.Proofs.Ytkgbjpdoigdjnab
