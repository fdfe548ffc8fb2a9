import Derived.Test.YtmnifblbacgeoabPL
namespace Go.Proofs.Ytmnifblbacgeoab
open Go.RowKit
open Go.Maps
set_option maxRecDepth 100000
set_option linter.unusedVariables false
set_option linter.unusedSimpArgs false

/-! ## Plainly: what a block is -/
def gvN (k : Nat) : Bool := (rrT k).gives
def enN (k : Nat) : Bool := (rrT k).ends
structure Loc (count : Int) (o : ON) : Prop where
  k1 : 1 ≤ o.kd
  k2 : o.kd ≤ 17
  wl : (rrT o.kd).lo ≤ (o.w : Int)
  wh : (o.w : Int) ≤ (rrT o.kd).hi
  fa : tkN o.kd < 1 → o.a = 0
  fb : tkN o.kd < 2 → o.kd ≠ 14 → o.b = 0
  fc : tkN o.kd < 3 → o.c = 0
  fk : (flT o.kd).hk = false → o.k = 0
  fn : (flT o.kd).hn = false → o.n = 0
  fg : o.kd = 14 → o.b ≤ 4294967295
  nc : (o.n : Int) ≤ count
theorem rr_nat (k : Nat) : rr (k : Int) = rrT k := by unfold rr; rw [Int.toNat_natCast]
theorem eop_ok (o : ON) : eOp (rO o) = false ↔ (1 ≤ o.kd ∧ o.kd ≤ 17) ∧ (rrT o.kd).lo ≤ (o.w : Int) ∧ (o.w : Int) ≤ (rrT o.kd).hi := by
  unfold eOp
  have e : (rO o).kind = (o.kd : Int) := rfl
  have e2 : (rO o).w = (o.w : Int) := rfl
  rw [e, e2, rr_nat]
  simp only [Bool.or_eq_false_iff, Bool.not_eq_false', decide_eq_false_iff_not, isK_iff]
  omega
theorem fld_ok (count : Int) (o : ON) (h1 : 1 ≤ o.kd) (h2 : o.kd ≤ 17) : fieldBad (flT o.kd) (rO o) count = false ↔ (tkN o.kd < 1 → o.a = 0) ∧ (tkN o.kd < 2 → o.kd ≠ 14 → o.b = 0) ∧ (tkN o.kd < 3 → o.c = 0) ∧ ((flT o.kd).hk = false → o.k = 0) ∧ ((flT o.kd).hn = false → o.n = 0) ∧ (o.kd = 14 → o.b ≤ 4294967295) ∧ (o.n : Int) ≤ count := by
  obtain ⟨kd, w, a, b, c, k, n⟩ := o
  simp only at h1 h2
  unfold fieldBad bd bg rO
  simp only [Bool.or_eq_false_iff, Bool.and_eq_false_iff, bne_eq_false_iff_eq, Bool.not_eq_false', decide_eq_false_iff_not, decide_eq_true_eq]
  rcases (by omega : kd = 1 ∨ kd = 2 ∨ kd = 3 ∨ kd = 4 ∨ kd = 5 ∨ kd = 6 ∨ kd = 7 ∨ kd = 8 ∨ kd = 9 ∨ kd = 10 ∨ kd = 11 ∨ kd = 12 ∨ kd = 13 ∨ kd = 14 ∨ kd = 15 ∨ kd = 16 ∨ kd = 17) with rfl | rfl | rfl | rfl | rfl | rfl | rfl | rfl | rfl | rfl | rfl | rfl | rfl | rfl | rfl | rfl | rfl <;> simp [flT, tkN, ruT] <;> omega
theorem tk_ok (h : Nat → ON) (i : Nat) (o : ON) (h1 : 1 ≤ o.kd) (h2 : o.kd ≤ 17) : takenBad (flT o.kd) (rO o) (fun i => rO (h i)) i = false ↔ ∀ q, q < tkN o.kd → arg o q < i ∧ gvN (h (arg o q)).kd = true := by
  have hg : ∀ t : Nat, gvn (fun i => rO (h i)) i (t : Int) = (decide (t < i) && gvN (h t).kd) := fun t => by
    unfold gvn gvN
    rw [Int.toNat_natCast]
    show (decide (0 ≤ (t : Int) ∧ (t : Int) < (i : Int)) && (rr ((h t).kd : Int)).gives) = _
    rw [rr_nat]
    congr 1
    apply Bool.eq_iff_iff.2
    simp only [decide_eq_true_eq]
    omega
  obtain ⟨kd, w, a, b, c, k, n⟩ := o
  simp only at h1 h2
  have ha : gvn (fun i => rO (h i)) i (rO ⟨kd, w, a, b, c, k, n⟩).a = (decide (a < i) && gvN (h a).kd) := hg a
  have hb : gvn (fun i => rO (h i)) i (rO ⟨kd, w, a, b, c, k, n⟩).b = (decide (b < i) && gvN (h b).kd) := hg b
  have hc : gvn (fun i => rO (h i)) i (rO ⟨kd, w, a, b, c, k, n⟩).c = (decide (c < i) && gvN (h c).kd) := hg c
  unfold takenBad tk
  rw [ha, hb, hc]
  have all0 : ∀ (P : Nat → Prop), (∀ q, q < 0 → P q) ↔ True := fun P => ⟨fun _ => trivial, fun _ q hq => absurd hq (Nat.not_lt_zero _)⟩
  have all1 : ∀ (P : Nat → Prop), (∀ q, q < 1 → P q) ↔ P 0 := fun P => ⟨fun h => h 0 (by omega), fun h q hq => by rcases (by omega : q = 0) with rfl; exact h⟩
  have all2 : ∀ (P : Nat → Prop), (∀ q, q < 2 → P q) ↔ P 0 ∧ P 1 := fun P => ⟨fun h => ⟨h 0 (by omega), h 1 (by omega)⟩, fun h q hq => by (rcases (by omega : q = 0 ∨ q = 1) with rfl | rfl <;> first | exact h.1 | exact h.2)⟩
  have all3 : ∀ (P : Nat → Prop), (∀ q, q < 3 → P q) ↔ P 0 ∧ P 1 ∧ P 2 := fun P => ⟨fun h => ⟨h 0 (by omega), h 1 (by omega), h 2 (by omega)⟩, fun h q hq => by (rcases (by omega : q = 0 ∨ q = 1 ∨ q = 2) with rfl | rfl | rfl <;> first | exact h.1 | exact h.2.1 | exact h.2.2)⟩
  rcases (by omega : kd = 1 ∨ kd = 2 ∨ kd = 3 ∨ kd = 4 ∨ kd = 5 ∨ kd = 6 ∨ kd = 7 ∨ kd = 8 ∨ kd = 9 ∨ kd = 10 ∨ kd = 11 ∨ kd = 12 ∨ kd = 13 ∨ kd = 14 ∨ kd = 15 ∨ kd = 16 ∨ kd = 17) with rfl | rfl | rfl | rfl | rfl | rfl | rfl | rfl | rfl | rfl | rfl | rfl | rfl | rfl | rfl | rfl | rfl
  · show _ ↔ ∀ q, q < 0 → _
    rw [all0]
    simp [flT, arg, and_assoc]
  · show _ ↔ ∀ q, q < 0 → _
    rw [all0]
    simp [flT, arg, and_assoc]
  · show _ ↔ ∀ q, q < 1 → _
    rw [all1]
    simp [flT, arg, and_assoc]
  · show _ ↔ ∀ q, q < 2 → _
    rw [all2]
    simp [flT, arg, and_assoc]
  · show _ ↔ ∀ q, q < 1 → _
    rw [all1]
    simp [flT, arg, and_assoc]
  · show _ ↔ ∀ q, q < 3 → _
    rw [all3]
    simp [flT, arg, and_assoc]
  · show _ ↔ ∀ q, q < 3 → _
    rw [all3]
    simp [flT, arg, and_assoc]
  · show _ ↔ ∀ q, q < 1 → _
    rw [all1]
    simp [flT, arg, and_assoc]
  · show _ ↔ ∀ q, q < 1 → _
    rw [all1]
    simp [flT, arg, and_assoc]
  · show _ ↔ ∀ q, q < 2 → _
    rw [all2]
    simp [flT, arg, and_assoc]
  · show _ ↔ ∀ q, q < 0 → _
    rw [all0]
    simp [flT, arg, and_assoc]
  · show _ ↔ ∀ q, q < 1 → _
    rw [all1]
    simp [flT, arg, and_assoc]
  · show _ ↔ ∀ q, q < 1 → _
    rw [all1]
    simp [flT, arg, and_assoc]
  · show _ ↔ ∀ q, q < 0 → _
    rw [all0]
    simp [flT, arg, and_assoc]
  · show _ ↔ ∀ q, q < 0 → _
    rw [all0]
    simp [flT, arg, and_assoc]
  · show _ ↔ ∀ q, q < 1 → _
    rw [all1]
    simp [flT, arg, and_assoc]
  · show _ ↔ ∀ q, q < 0 → _
    rw [all0]
    simp [flT, arg, and_assoc]
theorem op_ok (count : Int) (n : Nat) (h : Nat → ON) (i : Nat) : opErr count n (fun i => rO (h i)) i = 0 ↔ Loc count (h i) ∧ (∀ q, q < tkN (h i).kd → arg (h i) q < i ∧ gvN (h (arg (h i) q)).kd = true) ∧ (enN (h i).kd = true → i + 1 = n) := by
  unfold opErr
  have e : ((rO (h i)).kind).toNat = (h i).kd := Int.toNat_natCast _
  have e3 : (rr (rO (h i)).kind).ends = enN (h i).kd := by show (rr ((h i).kd : Int)).ends = _; rw [rr_nat]; rfl
  simp only [e, e3]
  constructor
  · intro hq
    by_cases h1 : eOp (rO (h i)) = true
    · rw [if_pos h1] at hq; exact absurd hq (by decide)
    rw [if_neg h1] at hq
    have h1' : eOp (rO (h i)) = false := by simpa using h1
    obtain ⟨⟨k1, k2⟩, wl, wh⟩ := (eop_ok (h i)).1 h1'
    by_cases h2 : fieldBad (flT (h i).kd) (rO (h i)) count = true
    · rw [if_pos h2] at hq; exact absurd hq (by decide)
    rw [if_neg h2] at hq
    have h2' : fieldBad (flT (h i).kd) (rO (h i)) count = false := by simpa using h2
    obtain ⟨fa, fb, fc, fk, fn, fg, nc⟩ := (fld_ok count (h i) k1 k2).1 h2'
    by_cases h3 : takenBad (flT (h i).kd) (rO (h i)) (fun i => rO (h i)) i = true
    · rw [if_pos h3] at hq; exact absurd hq (by decide)
    rw [if_neg h3] at hq
    have h3' : takenBad (flT (h i).kd) (rO (h i)) (fun i => rO (h i)) i = false := by simpa using h3
    refine ⟨⟨k1, k2, wl, wh, fa, fb, fc, fk, fn, fg, nc⟩, (tk_ok h i (h i) k1 k2).1 h3', fun he => ?_⟩
    by_cases h4 : i + 1 = n
    · exact h4
    · rw [if_pos (by rw [he]; simpa using h4)] at hq; exact absurd hq (by decide)
  · rintro ⟨L, ht, he⟩
    rw [if_neg (by rw [(eop_ok (h i)).2 ⟨⟨L.k1, L.k2⟩, L.wl, L.wh⟩]; decide), if_neg (by rw [(fld_ok count (h i) L.k1 L.k2).2 ⟨L.fa, L.fb, L.fc, L.fk, L.fn, L.fg, L.nc⟩]; decide), if_neg (by rw [(tk_ok h i (h i) L.k1 L.k2).2 ht]; decide)]
    by_cases h4 : enN (h i).kd = true
    · rw [if_neg (by have := he h4; simp [this])]
    · rw [if_neg (by simp [h4])]
theorem scan_ok (count : Int) (n : Nat) (f : Nat → OpR) : ∀ m i, (scan count n f m i).1 = 0 ↔ (∀ j, i ≤ j → j < i + m → opErr count n f j = 0) ∧ (endR n f).1 = 0
  | 0, i => by
    show (endR n f).1 = 0 ↔ _
    exact ⟨fun h => ⟨fun j h1 h2 => absurd h2 (by omega), h⟩, fun h => h.2⟩
  | m + 1, i => by
    show (if opErr count n f i = 0 then scan count n f m (i + 1) else (opErr count n f i, (i : Int))).1 = 0 ↔ _
    by_cases h0 : opErr count n f i = 0
    · rw [if_pos h0, scan_ok count n f m (i + 1)]
      constructor
      · rintro ⟨h1, h2⟩
        exact ⟨fun j hj hj2 => by
          by_cases e : j = i
          · rw [e]; exact h0
          · exact h1 j (by omega) (by omega), h2⟩
      · rintro ⟨h1, h2⟩
        exact ⟨fun j hj hj2 => h1 j (by omega) (by omega), h2⟩
    · rw [if_neg h0]
      exact ⟨fun h => absurd h h0, fun h => h.1 i (Nat.le_refl _) (by omega)⟩
theorem scan_zero (count : Int) (n : Nat) (f : Nat → OpR) : ∀ m i, (scan count n f m i).1 = 0 → scan count n f m i = (0, 0)
  | 0, i, h => by
    have h' : (endR n f).1 = 0 := h
    show endR n f = (0, 0)
    unfold endR at h' ⊢
    split
    · rename_i hq
      rw [if_pos hq] at h'
      have q' : (7 : Int) = 0 := h'
      exact absurd q' (by decide)
    · rfl
  | m + 1, i, h => by
    have h' : (if opErr count n f i = 0 then scan count n f m (i + 1) else (opErr count n f i, (i : Int))).1 = 0 := h
    show (if opErr count n f i = 0 then scan count n f m (i + 1) else (opErr count n f i, (i : Int))) = (0, 0)
    by_cases h0 : opErr count n f i = 0
    · rw [if_pos h0] at h' ⊢; exact scan_zero count n f m (i + 1) h'
    · rw [if_neg h0] at h'; exact absurd h' h0
/-- A block, plainly. -/
structure Blk (count : Int) (h : Nat → ON) (n : Nat) : Prop where
  n0 : 0 < n
  n1 : n ≤ 2048
  loc : ∀ i, i < n → Loc count (h i)
  ar : ∀ i, i < n → ∀ q, q < tkN (h i).kd → arg (h i) q < i ∧ gvN (h (arg (h i) q)).kd = true
  en : ∀ i, i < n → enN (h i).kd = true → i + 1 = n
  la : enN (h (n - 1)).kd = true
theorem end_ok (n : Nat) (h : Nat → ON) : (endR n (fun i => rO (h i))).1 = 0 ↔ 0 < n ∧ enN (h (n - 1)).kd = true := by
  unfold endR
  have e3 : (rr (rO (h (n - 1))).kind).ends = enN (h (n - 1)).kd := by show (rr ((h (n - 1)).kd : Int)).ends = _; rw [rr_nat]; rfl
  rw [e3]
  by_cases hq : n = 0 ∨ enN (h (n - 1)).kd = false
  · rw [if_pos hq]
    refine ⟨fun q => ?_, fun ⟨h1, h2⟩ => ?_⟩
    · have q' : (7 : Int) = 0 := q
      exact absurd q' (by decide)
    · rcases hq with e | e
      · omega
      · rw [h2] at e; cases e
  · rw [if_neg hq]
    refine ⟨fun _ => ⟨by omega, ?_⟩, fun _ => rfl⟩
    cases hb : enN (h (n - 1)).kd
    · exact absurd (.inr hb) hq
    · rfl
theorem chk_ok (count bytes : Int) (n : Nat) (h : Nat → ON) : (checkF count bytes n (fun i => rO (h i))).1 = 0 ↔ ((0 ≤ count ∧ count ≤ 64) ∧ (0 ≤ bytes ∧ bytes ≤ 384)) ∧ Blk count h n := by
  unfold checkF
  by_cases h1 : 2048 < n
  · rw [if_pos h1]
    refine ⟨fun q => ?_, fun h => by have := h.2.n1; omega⟩
    have q' : (5 : Int) = 0 := q
    exact absurd q' (by decide)
  rw [if_neg h1]
  by_cases h2 : (0 ≤ count ∧ count ≤ 64) ∧ (0 ≤ bytes ∧ bytes ≤ 384)
  · rw [if_pos h2, scan_ok, end_ok]
    constructor
    · rintro ⟨h3, h4, h5⟩
      exact ⟨h2, h4, by omega, fun i hi => ((op_ok count n h i).1 (h3 i (Nat.zero_le _) (by omega))).1, fun i hi => ((op_ok count n h i).1 (h3 i (Nat.zero_le _) (by omega))).2.1, fun i hi => ((op_ok count n h i).1 (h3 i (Nat.zero_le _) (by omega))).2.2, h5⟩
    · rintro ⟨-, B⟩
      exact ⟨fun j _ hj => (op_ok count n h j).2 ⟨B.loc j (by omega), B.ar j (by omega), B.en j (by omega)⟩, B.n0, B.la⟩
  · rw [if_neg h2]
    refine ⟨fun q => ?_, fun h => absurd h.1 h2⟩
    have q' : (4 : Int) = 0 := q
    exact absurd q' (by decide)
theorem chk_zero (count bytes : Int) (n : Nat) (f : Nat → OpR) (h : (checkF count bytes n f).1 = 0) : checkF count bytes n f = (0, 0) := by
  unfold checkF at h ⊢
  by_cases h1 : 2048 < n
  · rw [if_pos h1] at h
    have q' : (5 : Int) = 0 := h
    exact absurd q' (by decide)
  rw [if_neg h1] at h ⊢
  by_cases h2 : (0 ≤ count ∧ count ≤ 64) ∧ (0 ≤ bytes ∧ bytes ≤ 384)
  · rw [if_pos h2] at h ⊢; exact scan_zero count n f n 0 h
  · rw [if_neg h2] at h
    have q' : (4 : Int) = 0 := h
    exact absurd q' (by decide)
theorem G_iff (count bytes : Int) (l : List ON) : G count bytes l ↔ ((0 ≤ count ∧ count ≤ 64) ∧ (0 ≤ bytes ∧ bytes ≤ 384)) ∧ Blk count (hOf l) l.length ∧ ∀ i, (hOf l i).k < 4294967296 := by
  constructor
  · intro g
    have h := (chk_ok count bytes l.length (hOf l)).1 (by rw [g.ck])
    exact ⟨h.1, h.2, g.ks⟩
  · rintro ⟨h1, h2, h3⟩
    exact ⟨chk_zero _ _ _ _ ((chk_ok count bytes l.length (hOf l)).2 ⟨h1, h2⟩), h3⟩
end Go.Proofs.Ytmnifblbacgeoab
namespace Go.Proofs.Ytmnifblbacgeoab
open Go.RowKit
open Go.Maps
set_option maxRecDepth 100000
set_option linter.unusedVariables false
set_option linter.unusedSimpArgs false

/-! ## Plainly: what is settled is a block -/
def Val (l : List ON) (v : Nat) : Prop := v < l.length ∧ gvN (hOf l v).kd = true
theorem hOf_old {l : List ON} {o : ON} {j : Nat} (h : j < l.length) : hOf (l ++ [o]) j = hOf l j := by
  unfold hOf
  rw [List.getD_eq_getElem?_getD, List.getD_eq_getElem?_getD, List.getElem?_append_left h]
theorem hOf_new (l : List ON) (o : ON) : hOf (l ++ [o]) l.length = o := by
  unfold hOf
  rw [List.getD_eq_getElem?_getD, List.getElem?_append_right (Nat.le_refl _)]
  simp
theorem Val.app {l : List ON} {v : Nat} (h : Val l v) (o : ON) : Val (l ++ [o]) v := by
  obtain ⟨h1, h2⟩ := h
  exact ⟨by rw [List.length_append]; exact Nat.lt_of_lt_of_le h1 (Nat.le_add_right _ _), by rw [hOf_old h1]; exact h2⟩
theorem Val.new (l : List ON) {o : ON} (h : gvN o.kd = true) : Val (l ++ [o]) l.length := ⟨by simp, by rw [hOf_new]; exact h⟩
def wt (k : Nat) : Nat := if k = 17 then 2 else if isP k && decide (k ≠ 1) then 1 else 0
/-- What one operation does. -/
structure DR (count : Int) (s : SE) (o : ON) (r : SE × Option Nat) : Prop where
  lay : (r.1.l = s.l ∧ r.1.lft = s.lft ∧ enN o.kd = false) ∨ ∃ y, r.1.l = s.l ++ [y] ∧ Loc count y ∧ (∀ q, q < tkN y.kd → Val s.l (arg y q)) ∧ y.k < 4294967296 ∧ r.2 = some s.l.length ∧ (enN y.kd = true → y = o ∨ r.1.lft = true) ∧ (r.1.lft = true → s.lft = true ∨ enN y.kd = true) ∧ (enN o.kd = true → y = o ∧ r.1.lft = s.lft) ∧ wt y.kd ≤ wt o.kd ∧ (wt y.kd = wt o.kd → y = o ∧ r.1.lft = s.lft ∨ r.1.lft = true ∧ enN o.kd = false)
  val : gvN o.kd = true → ∃ v, r.2 = some v ∧ Val r.1.l v
  sl : (∀ a v, s.sl a = some v → Val s.l v) → ∀ a v, r.1.sl a = some v → Val r.1.l v
  nw : (∀ v, s.now = some v → Val s.l v) → ∀ v, r.1.now = some v → Val r.1.l v
/-- An operation whose values are laid. -/
structure POk (count : Int) (s : SE) (o : ON) : Prop where
  loc : Loc count o
  k : o.k < 4294967296
  ar : ∀ q, q < tkN o.kd → Val s.l (arg o q)
  sl : ∀ a v, s.sl a = some v → Val s.l v
  nw : ∀ v, s.now = some v → Val s.l v
  ks : ∀ i, (hOf s.l i).k < 4294967296
theorem dr_lay (count : Int) (s : SE) (o : ON) (h : POk count s o) : DR count s o ({ s with l := s.l ++ [o] }, some s.l.length) :=
  ⟨.inr ⟨o, rfl, h.loc, h.ar, h.k, rfl, fun _ => .inl rfl, fun q => .inl q, fun _ => ⟨rfl, rfl⟩, Nat.le_refl _, fun _ => .inl ⟨rfl, rfl⟩⟩, fun q => ⟨_, rfl, Val.new _ q⟩, fun q a v e => (q a v e).app o, fun q v e => (q v e).app o⟩
theorem isP_k {k : Nat} (h : isP k = true) : k = 1 ∨ k = 4 ∨ k = 5 ∨ k = 6 ∨ k = 7 ∨ k = 8 := by simp [isP] at h; omega
theorem isP_g {k : Nat} (h : isP k = true) : gvN k = true ∧ enN k = false := by
  rcases isP_k h with rfl | rfl | rfl | rfl | rfl | rfl <;> exact ⟨rfl, rfl⟩
theorem cst_loc (count : Int) (k : Nat) (hc : 0 ≤ count) : Loc count (cstO k) := ⟨by show 1 ≤ 1; omega, by show 1 ≤ 17; omega, by show (0 : Int) ≤ ((0 : Nat) : Int); decide, by show ((0 : Nat) : Int) ≤ (0 : Int); decide, fun _ => rfl, fun _ _ => rfl, fun _ => rfl, fun h => absurd h (by show ¬ true = false; decide), fun _ => rfl, fun h => absurd h (by show ¬ 1 = 14; decide), hc⟩
theorem dr_rec (count : Int) (s : SE) (o : ON) (h : POk count s o) (hp : isP o.kd = true) (hc : 0 ≤ count) : DR count s o (recS s o) := by
  obtain ⟨hg, he⟩ := isP_g hp
  unfold recS
  by_cases h6 : o.kd = 6 ∧ isC s.l o.a = true
  · rw [if_pos h6]
    refine ⟨.inl ⟨rfl, rfl, he⟩, fun _ => ⟨_, rfl, ?_⟩, fun q => q, fun q => q⟩
    unfold chO
    split
    · exact h.ar 2 (by rw [h6.1]; decide)
    · exact h.ar 1 (by rw [h6.1]; decide)
  · rw [if_neg h6]
    have hr : Loc count (recO s o) ∧ (∀ q, q < tkN (recO s o).kd → Val s.l (arg (recO s o) q)) ∧ (recO s o).k < 4294967296 ∧ isP (recO s o).kd = true ∧ wt (recO s o).kd ≤ wt o.kd ∧ (wt (recO s o).kd = wt o.kd → recO s o = o) := by
      unfold recO
      split
      · rename_i hC
        refine ⟨cst_loc count _ hc, fun q hq => absurd hq (by show ¬ q < 0; omega), vOf_lt o _ _ _ (h.ks _) (h.ks _) (h.ks _) h.k, rfl, by show 0 ≤ _; omega, fun e => ?_⟩
        have ht : 0 < tkN o.kd := by
          unfold ofC at hC
          simp only [Bool.and_eq_true, decide_eq_true_eq] at hC
          exact hC.1
        have e' : 0 = wt o.kd := e
        rcases isP_k hp with k | k | k | k | k | k
        · rw [k] at ht; exact absurd ht (by decide)
        all_goals (rw [k] at e'; exact absurd e' (by decide))
      · exact ⟨h.loc, h.ar, h.k, hp, Nat.le_refl _, fun _ => rfl⟩
    obtain ⟨r1, r2, r3, r4, r5, r6⟩ := hr
    cases hf : fnd s.l (recO s o) with
    | some j =>
      obtain ⟨hj, hj2⟩ := fnd_some hf
      exact ⟨.inl ⟨rfl, rfl, he⟩, fun _ => ⟨j, rfl, hj, by show gvN (s.l.getD j onD).kd = true; rw [hj2]; exact (isP_g r4).1⟩, fun q => q, fun q => q⟩
    | none =>
      show DR count s o ({ s with l := s.l ++ [recO s o] }, some s.l.length)
      exact ⟨.inr ⟨recO s o, rfl, r1, r2, r3, rfl, fun q => (by rw [(isP_g r4).2] at q; cases q), fun q => .inl q, fun q => (by rw [he] at q; cases q), r5, fun q => .inl ⟨r6 q, rfl⟩⟩, fun _ => ⟨_, rfl, Val.new _ (isP_g r4).1⟩, fun q a v e => (q a v e).app _, fun q v e => (q v e).app _⟩
theorem upd_some {f : Nat → Option Nat} {i a v : Nat} {x : Option Nat} (h : upd f i x a = some v) : x = some v ∨ f a = some v := by
  unfold upd at h
  split at h
  · exact .inl h
  · exact .inr h
theorem dr_get (count : Int) (s : SE) (o : ON) (h : POk count s o) (hk : o.kd = 2) : DR count s o (getS s o) := by
  have hg : gvN o.kd = true := by rw [hk]; rfl
  have he : enN o.kd = false := by rw [hk]; rfl
  unfold getS
  cases hs : s.sl o.w with
  | some v => exact ⟨.inl ⟨rfl, rfl, he⟩, fun _ => ⟨v, rfl, h.sl _ _ hs⟩, fun q => q, fun q => q⟩
  | none =>
    refine ⟨.inr ⟨o, rfl, h.loc, h.ar, h.k, rfl, fun _ => .inl rfl, fun q => .inl q, fun _ => ⟨rfl, rfl⟩, Nat.le_refl _, fun _ => .inl ⟨rfl, rfl⟩⟩, fun q => ⟨_, rfl, Val.new _ q⟩, fun q a v e => ?_, fun q v e => (q v e).app o⟩
    rcases upd_some e with e | e
    · cases e; exact Val.new _ hg
    · exact (q a v e).app o
theorem dr_put (count : Int) (s : SE) (o : ON) (h : POk count s o) (hk : o.kd = 3) : DR count s o (putS s o) := by
  have hg : gvN o.kd = false := by rw [hk]; rfl
  have he : enN o.kd = false := by rw [hk]; rfl
  unfold putS
  split
  · exact ⟨.inl ⟨rfl, rfl, he⟩, fun q => (by rw [hg] at q; cases q), fun q => q, fun q => q⟩
  · refine ⟨.inr ⟨o, rfl, h.loc, h.ar, h.k, rfl, fun _ => .inl rfl, fun q => .inl q, fun _ => ⟨rfl, rfl⟩, Nat.le_refl _, fun _ => .inl ⟨rfl, rfl⟩⟩, fun q => (by rw [hg] at q; cases q), fun q a v e => ?_, fun q v e => ?_⟩
    · rcases upd_some e with e | e
      · cases e; exact (h.ar 0 (by rw [hk]; decide)).app o
      · exact (q a v e).app o
    · have e' : (if 8 ≤ o.w then none else s.now) = some v := e
      split at e'
      · cases e'
      · exact (q v e').app o
theorem end_loc (count : Int) (o : ON) (h : Loc count o) (hk : o.kd = 12 ∨ o.kd = 13) : Loc count (endO o) ∧ tkN (endO o).kd = 0 ∧ enN (endO o).kd = true ∧ (endO o).k = o.k ∧ wt (endO o).kd = 0 := by
  unfold endO
  rcases hk with hk | hk
  · rw [if_neg (by omega)]
    exact ⟨⟨by show 1 ≤ 15; omega, by show 15 ≤ 17; omega, by show (0 : Int) ≤ ((0 : Nat) : Int); decide, by show ((0 : Nat) : Int) ≤ (0 : Int); decide, fun _ => rfl, fun _ _ => rfl, fun _ => rfl, fun q => absurd q (by show ¬ true = false; decide), fun q => absurd q (by show ¬ true = false; decide), fun q => absurd q (by show ¬ 15 = 14; decide), h.nc⟩, rfl, rfl, rfl, rfl⟩
  · rw [if_pos hk]
    have w1 := h.wl
    have w2 := h.wh
    rw [hk] at w1 w2
    exact ⟨⟨by show 1 ≤ 14; omega, by show 14 ≤ 17; omega, w1, w2, fun _ => rfl, fun _ q => absurd rfl q, fun _ => rfl, fun q => absurd q (by show ¬ true = false; decide), fun q => absurd q (by show ¬ true = false; decide), fun _ => by show 0 ≤ _; omega, h.nc⟩, rfl, rfl, rfl, rfl⟩
theorem dr_ask (count : Int) (s : SE) (o : ON) (h : POk count s o) (hk : o.kd = 12 ∨ o.kd = 13) : DR count s o (askS s o) := by
  have hg : gvN o.kd = false := by rcases hk with e | e <;> (rw [e]; rfl)
  have he : enN o.kd = false := by rcases hk with e | e <;> (rw [e]; rfl)
  have hw : wt o.kd = 0 := by rcases hk with e | e <;> (rw [e]; rfl)
  obtain ⟨e1, e2, e3, e4, e5⟩ := end_loc count o h.loc hk
  unfold askS
  split
  · exact dr_lay count s o h
  · split
    · exact ⟨.inl ⟨rfl, rfl, he⟩, fun q => (by rw [hg] at q; cases q), fun q => q, fun q => q⟩
    · exact ⟨.inr ⟨endO o, rfl, e1, fun q hq => (by rw [e2] at hq; omega), (by rw [e4]; exact h.k), rfl, fun _ => .inr rfl, fun _ => .inr e3, fun q => (by rw [he] at q; cases q), (by rw [e5]; omega), fun _ => .inr ⟨rfl, he⟩⟩, fun q => (by rw [hg] at q; cases q), fun q a v e => (q a v e).app _, fun q v e => (q v e).app _⟩
end Go.Proofs.Ytmnifblbacgeoab
namespace Go.Proofs.Ytmnifblbacgeoab
open Go.RowKit
open Go.Maps
set_option maxRecDepth 100000
set_option linter.unusedVariables false
set_option linter.unusedSimpArgs false

theorem md_pok (count : Int) (s : SE) (o : ON) (h : POk count s o) (hc : 0 ≤ count) (hk : knB s = true) : POk count s (mdO s) := by
  obtain ⟨v8, v9, v10, v11, h8, h9, h10, h11⟩ := kn_all hk
  have e : mdO s = ⟨7, if (s.l.getD v8 onD).k ≤ 12 then (s.l.getD v8 onD).k else 0, v9, v10, v11, 0, 0⟩ := by unfold mdO; rw [h8, h9, h10, h11]; rfl
  have hw : (if (s.l.getD v8 onD).k ≤ 12 then (s.l.getD v8 onD).k else 0) ≤ 12 := by split <;> omega
  rw [e]
  generalize (if (s.l.getD v8 onD).k ≤ 12 then (s.l.getD v8 onD).k else 0) = ww at hw
  refine ⟨⟨by show 1 ≤ 7; omega, by show 7 ≤ 17; omega, by show (0 : Int) ≤ (ww : Int); omega, by show (ww : Int) ≤ 12; omega, fun q => absurd q (by show ¬ tkN 7 < 1; decide), fun q => absurd q (by show ¬ tkN 7 < 2; decide), fun q => absurd q (by show ¬ tkN 7 < 3; decide), fun _ => rfl, fun _ => rfl, fun q => absurd q (by show ¬ 7 = 14; decide), hc⟩, by show 0 < _; omega, fun q hq => ?_, h.sl, h.nw, h.ks⟩
  have hq3 : q < 3 := hq
  rcases (by omega : q = 0 ∨ q = 1 ∨ q = 2) with rfl | rfl | rfl
  · exact h.sl _ _ h9
  · exact h.sl _ _ h10
  · exact h.sl _ _ h11
theorem md_kd (s : SE) : (mdO s).kd = 7 := rfl
theorem dr_tel (count : Int) (s : SE) (o : ON) (h : POk count s o) (hk : o.kd = 17) (hc : 0 ≤ count) : DR count s o (telS s o) := by
  have hg : gvN o.kd = true := by rw [hk]; rfl
  have he : enN o.kd = false := by rw [hk]; rfl
  have hw : wt o.kd = 2 := by rw [hk]; rfl
  unfold telS
  cases hn : s.now with
  | some v => exact ⟨.inl ⟨rfl, rfl, he⟩, fun _ => ⟨v, rfl, h.nw v hn⟩, fun q => q, fun q => q⟩
  | none =>
    show DR count s o (if knB s = true then recS s (mdO s) else ({ s with l := s.l ++ [o], now := some s.l.length }, some s.l.length))
    by_cases hb : knB s = true
    · rw [if_pos hb]
      have d := dr_rec count s (mdO s) (md_pok count s o h hc hb) rfl hc
      have wm : wt (mdO s).kd = 1 := rfl
      refine ⟨?_, fun _ => d.val rfl, d.sl, d.nw⟩
      rcases d.lay with ⟨a, b, -⟩ | ⟨y, y1, y2, y3, y4, y5, y6, y7, y8, y9, y10⟩
      · exact .inl ⟨a, b, he⟩
      · refine .inr ⟨y, y1, y2, y3, y4, y5, fun q => ?_, y7, fun q => (by rw [he] at q; cases q), by omega, fun q => by omega⟩
        rcases y6 q with e | e
        · rw [e] at q; exact absurd q (by show ¬ enN 7 = true; decide)
        · exact .inr e
    · rw [if_neg hb]
      refine ⟨.inr ⟨o, rfl, h.loc, h.ar, h.k, rfl, fun _ => .inl rfl, fun q => .inl q, fun _ => ⟨rfl, rfl⟩, Nat.le_refl _, fun _ => .inl ⟨rfl, rfl⟩⟩, fun q => ⟨_, rfl, Val.new _ q⟩, fun q a v e => (q a v e).app o, fun q v e => ?_⟩
      have e' : some s.l.length = some v := e
      cases e'
      exact Val.new _ hg
theorem dr_do (count : Int) (s : SE) (o : ON) (h : POk count s o) (hc : 0 ≤ count) : DR count s o (doS s o) := by
  unfold doS
  split
  · rename_i q; exact dr_rec count s o h q hc
  split
  · rename_i q; exact dr_get count s o h q
  split
  · rename_i q; exact dr_put count s o h q
  split
  · rename_i q; exact dr_ask count s o h q
  split
  · rename_i q; exact dr_tel count s o h q hc
  · exact dr_lay count s o h
theorem ren_loc (count : Int) (o : ON) (t : Nat → Option Nat) (h : Loc count o) : Loc count (ren o t) := by
  refine ⟨h.k1, h.k2, h.wl, h.wh, fun q => ?_, fun q q2 => ?_, fun q => ?_, h.fk, h.fn, fun q => ?_, h.nc⟩
  · show (if 0 < tkN o.kd then _ else o.a) = 0
    rw [if_neg (by have : tkN o.kd < 1 := q; omega)]; exact h.fa q
  · show (if 1 < tkN o.kd then _ else o.b) = 0
    rw [if_neg (by have : tkN o.kd < 2 := q; omega)]; exact h.fb q q2
  · show (if 2 < tkN o.kd then _ else o.c) = 0
    rw [if_neg (by have : tkN o.kd < 3 := q; omega)]; exact h.fc q
  · have q' : o.kd = 14 := q
    show (if 1 < tkN o.kd then _ else o.b) ≤ _
    rw [if_neg (by rw [q']; decide)]; exact h.fg q'
theorem ren_arg (o : ON) (t : Nat → Option Nat) (q : Nat) (hq : q < tkN o.kd) : arg (ren o t) q = (t (arg o q)).getD 0 := by
  have h3 := (tkN_le o.kd).1
  rcases (by omega : q = 0 ∨ q = 1 ∨ q = 2) with rfl | rfl | rfl
  · exact if_pos hq
  · exact if_pos hq
  · exact if_pos hq
theorem ren_id (o : ON) (t : Nat → Option Nat) (h : ∀ q, q < tkN o.kd → t (arg o q) = some (arg o q)) : ren o t = o := by
  obtain ⟨kd, w, a, b, c, k, n⟩ := o
  unfold ren
  have e0 : (if 0 < tkN kd then (t a).getD 0 else a) = a := by
    by_cases q : 0 < tkN kd
    · rw [if_pos q, show t a = some a from h 0 q]; rfl
    · rw [if_neg q]
  have e1 : (if 1 < tkN kd then (t b).getD 0 else b) = b := by
    by_cases q : 1 < tkN kd
    · rw [if_pos q, show t b = some b from h 1 q]; rfl
    · rw [if_neg q]
  have e2 : (if 2 < tkN kd then (t c).getD 0 else c) = c := by
    by_cases q : 2 < tkN kd
    · rw [if_pos q, show t c = some c from h 2 q]; rfl
    · rw [if_neg q]
  show ON.mk kd w (if 0 < tkN kd then (t a).getD 0 else a) (if 1 < tkN kd then (t b).getD 0 else b) (if 2 < tkN kd then (t c).getD 0 else c) k n = _
  rw [e0, e1, e2]
/-- Operations that are laid, so far. -/
structure LOk (count : Int) (l : List ON) : Prop where
  loc : ∀ j, j < l.length → Loc count (hOf l j)
  ar : ∀ j, j < l.length → ∀ q, q < tkN (hOf l j).kd → arg (hOf l j) q < j ∧ gvN (hOf l (arg (hOf l j) q)).kd = true
  ks : ∀ j, (hOf l j).k < 4294967296
theorem hOf_out {l : List ON} {j : Nat} (h : l.length ≤ j) : hOf l j = onD := by
  unfold hOf
  rw [List.getD_eq_getElem?_getD, List.getElem?_eq_none h]; rfl
theorem LOk.app {count : Int} {l : List ON} (h : LOk count l) {y : ON} (h1 : Loc count y) (h2 : ∀ q, q < tkN y.kd → Val l (arg y q)) (h3 : y.k < 4294967296) : LOk count (l ++ [y]) := by
  refine ⟨fun j hj => ?_, fun j hj q hq => ?_, fun j => ?_⟩
  · rw [List.length_append] at hj
    by_cases e : j < l.length
    · rw [hOf_old e]; exact h.loc j e
    · obtain rfl : j = l.length := by simp at hj; omega
      rw [hOf_new]; exact h1
  · rw [List.length_append] at hj
    by_cases e : j < l.length
    · rw [hOf_old e] at hq ⊢
      obtain ⟨a, b⟩ := h.ar j e q hq
      exact ⟨a, by rw [hOf_old (Nat.lt_trans a e)]; exact b⟩
    · obtain rfl : j = l.length := by simp at hj; omega
      rw [hOf_new] at hq ⊢
      obtain ⟨a, b⟩ := h2 q hq
      exact ⟨a, by rw [hOf_old a]; exact b⟩
  · by_cases e : j < l.length
    · rw [hOf_old e]; exact h.ks j
    · by_cases e2 : j = l.length
      · rw [e2, hOf_new]; exact h3
      · rw [hOf_out (by rw [List.length_append]; simp; omega)]; exact (by decide : (0 : Nat) < 4294967296)
structure Inv (count : Int) (h : Nat → ON) (n i : Nat) (x : TS) : Prop where
  len : x.s.l.length ≤ i
  lok : LOk count x.s.l
  en : ∀ j, j < x.s.l.length → enN (hOf x.s.l j).kd = true → j + 1 = x.s.l.length ∧ (x.s.lft = true ∨ i = n)
  lf : x.s.lft = true → 0 < x.s.l.length ∧ enN (hOf x.s.l (x.s.l.length - 1)).kd = true
  tt : x.s.lft = false → ∀ p, p < i → gvN (h p).kd = true → ∃ v, x.t p = some v ∧ Val x.s.l v
  sl : ∀ a v, x.s.sl a = some v → Val x.s.l v
  nw : ∀ v, x.s.now = some v → Val x.s.l v
  la : x.s.lft = false → i = n → 0 < x.s.l.length ∧ enN (hOf x.s.l (x.s.l.length - 1)).kd = true
theorem inv_pok {count : Int} {h : Nat → ON} {n i : Nat} {x : TS} (B : Blk count h n) (ks : ∀ i, (h i).k < 4294967296) (I : Inv count h n i x) (hi : i < n) (hl : x.s.lft = false) : POk count x.s (ren (h i) x.t) := by
  refine ⟨ren_loc count _ _ (B.loc i hi), ks i, fun q hq => ?_, I.sl, I.nw, I.lok.ks⟩
  have hq' : q < tkN (h i).kd := hq
  obtain ⟨a1, a2⟩ := B.ar i hi q hq'
  obtain ⟨v, hv, hV⟩ := I.tt hl _ a1 a2
  rw [ren_arg _ _ _ hq', hv]
  exact hV
theorem inv_step {count : Int} {h : Nat → ON} {n i : Nat} (B : Blk count h n) (ks : ∀ i, (h i).k < 4294967296) (hc : 0 ≤ count) (I : Inv count h n i (runS h i)) (hi : i < n) : Inv count h n (i + 1) (runS h (i + 1)) := by
  cases hl : (runS h i).s.lft with
  | true =>
    have e : runS h (i + 1) = runS h i := by show (if (runS h i).s.lft then _ else _) = _; rw [if_pos hl]
    rw [e]
    exact ⟨Nat.le_succ_of_le I.len, I.lok, fun j hj q => ⟨(I.en j hj q).1, .inl hl⟩, I.lf, fun q => (by rw [hl] at q; cases q), I.sl, I.nw, fun q => (by rw [hl] at q; cases q)⟩
  | false =>
    rw [runS_next h i hl]
    have P := inv_pok B ks I hi hl
    have D := dr_do count _ _ P hc
    generalize hx : runS h i = x at *
    show Inv count h n (i + 1) ⟨(doS x.s (ren (h i) x.t)).1, upd x.t i (doS x.s (ren (h i) x.t)).2⟩
    generalize hr : doS x.s (ren (h i) x.t) = r at *
    have Dv : gvN (h i).kd = true → ∃ v, r.2 = some v ∧ Val r.1.l v := D.val
    have hsl := D.sl I.sl
    have hnw := D.nw I.nw
    have tt : (∀ v, Val x.s.l v → Val r.1.l v) → r.1.lft = false → ∀ p, p < i + 1 → gvN (h p).kd = true → ∃ v, upd x.t i r.2 p = some v ∧ Val r.1.l v := fun hm _ p hp hg => by
      unfold upd
      by_cases e : p = i
      · rw [if_pos e]; rw [e] at hg; exact Dv hg
      · rw [if_neg e]
        obtain ⟨v, h1, h2⟩ := I.tt hl p (by omega) hg
        exact ⟨v, h1, hm v h2⟩
    have noen : ∀ j, j < x.s.l.length → ¬ enN (hOf x.s.l j).kd = true := fun j hj q => by
      rcases (I.en j hj q).2 with e | e
      · rw [hl] at e; cases e
      · omega
    have hlen := I.len
    rcases D.lay with ⟨e1, e2, e3⟩ | ⟨y, y1, y2, y3, y4, y5, y6, y7, y8, y9, y10⟩
    · have e3' : enN (h i).kd = false := e3
      refine ⟨by show r.1.l.length ≤ i + 1; rw [e1]; omega, by show LOk count r.1.l; rw [e1]; exact I.lok, ?_, ?_, tt (fun v hv => by rw [e1]; exact hv), hsl, hnw, ?_⟩
      · show ∀ j, j < r.1.l.length → enN (hOf r.1.l j).kd = true → _
        rw [e1]
        exact fun j hj q => absurd q (noen j hj)
      · intro q
        have q' : r.1.lft = true := q
        rw [e2, hl] at q'; cases q'
      · intro _ q
        have := B.la
        rw [show n - 1 = i by omega, e3'] at this
        cases this
    · have ll : r.1.l.length = x.s.l.length + 1 := by rw [y1]; simp
      refine ⟨by show r.1.l.length ≤ i + 1; omega, by show LOk count r.1.l; rw [y1]; exact I.lok.app y2 y3 y4, ?_, ?_, tt (fun v hv => by rw [y1]; exact hv.app y), hsl, hnw, ?_⟩
      · intro j hj q
        have hj' : j < r.1.l.length := hj
        have q' : enN (hOf r.1.l j).kd = true := q
        show j + 1 = r.1.l.length ∧ (r.1.lft = true ∨ i + 1 = n)
        by_cases e : j < x.s.l.length
        · rw [y1, hOf_old e] at q'; exact absurd q' (noen j e)
        · have ej : j = x.s.l.length := by omega
          rw [y1, ej, hOf_new] at q'
          refine ⟨by omega, ?_⟩
          rcases y6 q' with e | e
          · rw [e] at q'; exact .inr (B.en i hi q')
          · exact .inl e
      · intro q
        have q' : r.1.lft = true := q
        show 0 < r.1.l.length ∧ enN (hOf r.1.l (r.1.l.length - 1)).kd = true
        refine ⟨by omega, ?_⟩
        rw [ll, Nat.add_sub_cancel, y1, hOf_new]
        rcases y7 q' with e | e
        · rw [hl] at e; cases e
        · exact e
      · intro _ q
        show 0 < r.1.l.length ∧ enN (hOf r.1.l (r.1.l.length - 1)).kd = true
        refine ⟨by omega, ?_⟩
        have hla := B.la
        rw [show n - 1 = i by omega] at hla
        rw [ll, Nat.add_sub_cancel, y1, hOf_new, (y8 hla).1]
        exact hla
theorem inv_zero (count : Int) (h : Nat → ON) (n : Nat) (hn : 0 < n) : Inv count h n 0 (runS h 0) := by
  have e : runS h 0 = ⟨se0, fun _ => some 0⟩ := rfl
  rw [e]
  refine ⟨Nat.le_refl _, ⟨fun j hj => absurd hj (Nat.not_lt_zero _), fun j hj => absurd hj (Nat.not_lt_zero _), fun j => ?_⟩, fun j hj => absurd hj (Nat.not_lt_zero _), fun q => ?_, fun _ p hp => absurd hp (Nat.not_lt_zero _), fun a v q => ?_, fun v q => ?_, fun _ q => by omega⟩
  · show (hOf [] j).k < _
    rw [hOf_out (Nat.zero_le _)]; exact (by decide : (0 : Nat) < 4294967296)
  · exact absurd q (by show ¬ (false = true); decide)
  · have q' : (none : Option Nat) = some v := q
    cases q'
  · have q' : (none : Option Nat) = some v := q
    cases q'
theorem inv_all {count : Int} {h : Nat → ON} {n : Nat} (B : Blk count h n) (ks : ∀ i, (h i).k < 4294967296) (hc : 0 ≤ count) : ∀ i, i ≤ n → Inv count h n i (runS h i)
  | 0, _ => inv_zero count h n B.n0
  | i + 1, hi => inv_step B ks hc (inv_all B ks hc i (by omega)) (by omega)
theorem set_blk {count : Int} {h : Nat → ON} {n : Nat} (B : Blk count h n) (ks : ∀ i, (h i).k < 4294967296) (hc : 0 ≤ count) : Blk count (hOf (runS h n).s.l) (runS h n).s.l.length ∧ ∀ i, (hOf (runS h n).s.l i).k < 4294967296 := by
  have I := inv_all B ks hc n (Nat.le_refl _)
  have hla : 0 < (runS h n).s.l.length ∧ enN (hOf (runS h n).s.l ((runS h n).s.l.length - 1)).kd = true := by
    cases hl : (runS h n).s.lft with
    | true => exact I.lf hl
    | false => exact I.la hl rfl
  exact ⟨⟨hla.1, Nat.le_trans I.len B.n1, I.lok.loc, I.lok.ar, fun i hi q => (I.en i hi q).1, hla.2⟩, I.lok.ks⟩
theorem g_set {count bytes : Int} {l : List ON} (g : G count bytes l) : G count bytes (setL l) := by
  obtain ⟨h1, h2, h3⟩ := (G_iff count bytes l).1 g
  exact (G_iff count bytes (setL l)).2 ⟨h1, set_blk h2 h3 h1.1.1⟩
end Go.Proofs.Ytmnifblbacgeoab
namespace Go.Proofs.Ytmnifblbacgeoab
open Go.RowKit
open Go.Maps
set_option maxRecDepth 100000
set_option linter.unusedVariables false
set_option linter.unusedSimpArgs false

theorem hi_le (k : Nat) (h1 : 1 ≤ k) (h2 : k ≤ 17) : (rrT k).hi ≤ 255 ∧ (k = 4 ∨ k = 8 → (rrT k).hi ≤ 15) ∧ (k = 5 → (rrT k).hi ≤ 6) ∧ (k = 2 ∨ k = 3 → (rrT k).hi ≤ 11) := by
  rcases (by omega : k = 1 ∨ k = 2 ∨ k = 3 ∨ k = 4 ∨ k = 5 ∨ k = 6 ∨ k = 7 ∨ k = 8 ∨ k = 9 ∨ k = 10 ∨ k = 11 ∨ k = 12 ∨ k = 13 ∨ k = 14 ∨ k = 15 ∨ k = 16 ∨ k = 17) with rfl | rfl | rfl | rfl | rfl | rfl | rfl | rfl | rfl | rfl | rfl | rfl | rfl | rfl | rfl | rfl | rfl <;> exact ⟨by decide, by decide, by decide, by decide⟩

theorem on_wf {count : Int} {o : ON} {m : Nat} (L : Loc count o) (hc : count ≤ 64) (hk : o.k < 4294967296) (hm : m ≤ 2048) (ha : ∀ q, q < tkN o.kd → arg o q < m) : OnW o := by
  have h1 := L.k1
  have h2 := L.k2
  have hh := (hi_le o.kd h1 h2).1
  have hw := L.wh
  have hn := L.nc
  have a0 : o.a < 9223372036854775808 := by
    by_cases q : 0 < tkN o.kd
    · have : o.a < m := ha 0 q
      omega
    · rw [L.fa (by omega)]; decide
  have b0 : o.b < 9223372036854775808 := by
    by_cases q : 1 < tkN o.kd
    · have : o.b < m := ha 1 q
      omega
    · by_cases e : o.kd = 14
      · have := L.fg e
        omega
      · rw [L.fb (by omega) e]; decide
  have c0 : o.c < 9223372036854775808 := by
    by_cases q : 2 < tkN o.kd
    · have : o.c < m := ha 2 q
      omega
    · rw [L.fc (by omega)]; decide
  exact ⟨by omega, by omega, a0, b0, c0, hk, by omega⟩
theorem set_ok {count : Int} {h : Nat → ON} {n : Nat} (B : Blk count h n) (ks : ∀ i, (h i).k < 4294967296) (hc : 0 ≤ count) (hc2 : count ≤ 64) : SetOk h n := by
  intro i hi hl
  have I := inv_all B ks hc i (by omega)
  have P := inv_pok B ks I hi hl
  have n1 := B.n1
  have hlen := I.len
  have hh := hi_le _ P.loc.k1 P.loc.k2
  have hw := P.loc.wh
  have hlt : ∀ q, q < tkN (ren (h i) (runS h i).t).kd → arg (ren (h i) (runS h i).t) q < (runS h i).s.l.length := fun q hq => (P.ar q hq).1
  refine ⟨⟨P.loc.k1, P.loc.k2, fun hp => ⟨hp, on_wf P.loc hc2 P.k (by omega) hlt, hlt, fun q => P.loc.fb q (by rcases isP_k hp with e | e | e | e | e | e <;> omega), P.loc.fc, fun q => ?_, fun q => ?_, P.ks⟩, fun q => ?_, fun q => ?_, by omega, fun a v e => (I.sl a v e).1, I.lok.ks⟩, fun q hq => by have := (B.ar i hi q hq).1; omega, fun q hq => ?_⟩
  · have := hh.2.1 q; omega
  · have := hh.2.2.1 q; omega
  · have := hh.2.2.2 q; omega
  · exact hlt 0 (by rcases q with e | e <;> (rw [e]; decide))
  · obtain ⟨a1, a2⟩ := B.ar i hi q hq
    obtain ⟨v, hv, -⟩ := I.tt hl _ a1 a2
    exact ⟨v, hv⟩
theorem ne_ok {count : Int} {h : Nat → ON} {n : Nat} (B : Blk count h n) : NeOk h n :=
  ⟨fun i hi => (B.loc i hi).k1, fun i hi => (B.loc i hi).k2, fun i hi q hq => by have := (B.ar i hi q hq).1; omega, fun i hi q => by
    have := (hi_le _ (B.loc i hi).k1 (B.loc i hi).k2).2.2.2 q
    have := (B.loc i hi).wh
    omega⟩
/-! ## What is needed -/
theorem tkSet_mono {t : Nat → Bool} {o : ON} {j : Nat} (h : t j = true) : ∀ q, tkSet t o q j = true
  | 0 => h
  | q + 1 => by
    show upd (tkSet t o q) (arg o q) true j = true
    unfold upd
    split
    · rfl
    · exact tkSet_mono h q
theorem tkSet_at {t : Nat → Bool} {o : ON} {p : Nat} : ∀ q, p < q → tkSet t o q (arg o p) = true
  | 0, h => absurd h (Nat.not_lt_zero _)
  | q + 1, h => by
    show upd (tkSet t o q) (arg o q) true (arg o p) = true
    unfold upd
    split
    · rfl
    · rename_i ne
      exact tkSet_at q (by
        rcases Nat.lt_succ_iff_lt_or_eq.1 h with e | e
        · exact e
        · exact absurd (by rw [e]) ne)
theorem ne_mono (h : Nat → ON) (n : Nat) {m j : Nat} (hj : (neS h n m).d.tk j = true) : ∀ d, (neS h n (m + d)).d.tk j = true
  | 0 => hj
  | d + 1 => by
    show (if staB (neS h n (m + d)).d _ _ then askN (neS h n (m + d)).d _ else (neS h n (m + d)).d : ND).tk j = true
    split
    · exact tkSet_mono (ne_mono h n hj d) _
    · exact ne_mono h n hj d
theorem ne_sy (h : Nat → ON) (n : Nat) {m : Nat} (hm : m < n) : ∀ d, m + 1 + d ≤ n → (neS h n (m + 1 + d)).sy (n - 1 - m) = staB (neS h n m).d (n - 1 - m) (h (n - 1 - m))
  | 0, _ => by
    show upd _ (n - 1 - m) _ (n - 1 - m) = _
    exact if_pos rfl
  | d + 1, hd => by
    show upd (neS h n (m + 1 + d)).sy (n - 1 - (m + 1 + d)) _ (n - 1 - m) = _
    unfold upd
    rw [if_neg (by omega)]
    exact ne_sy h n hm d (by omega)
/-- Which operations stay. -/
def syF (h : Nat → ON) (n : Nat) : Nat → Bool := (neS h n n).sy
theorem sy_at (h : Nat → ON) (n : Nat) {i : Nat} (hi : i < n) : syF h n i = staB (neS h n (n - 1 - i)).d i (h i) := by
  have e := ne_sy h n (m := n - 1 - i) (by omega) i (by omega)
  rw [show n - 1 - i + 1 + i = n by omega, show n - 1 - (n - 1 - i) = i by omega] at e
  exact e
theorem lv_gv (k : Nat) (h1 : 1 ≤ k) (h2 : k ≤ 17) : (gvN k = true → k ≠ 3) ∧ (enN k = true → (ruT k).leaves = true) ∧ (gvN k = true → k ≠ 9 → (ruT k).leaves = false) := by
  rcases (by omega : k = 1 ∨ k = 2 ∨ k = 3 ∨ k = 4 ∨ k = 5 ∨ k = 6 ∨ k = 7 ∨ k = 8 ∨ k = 9 ∨ k = 10 ∨ k = 11 ∨ k = 12 ∨ k = 13 ∨ k = 14 ∨ k = 15 ∨ k = 16 ∨ k = 17) with rfl | rfl | rfl | rfl | rfl | rfl | rfl | rfl | rfl | rfl | rfl | rfl | rfl | rfl | rfl | rfl | rfl <;> exact ⟨by decide, by decide, by decide⟩
theorem sy_last {count : Int} {h : Nat → ON} {n : Nat} (B : Blk count h n) : syF h n (n - 1) = true := by
  have n0 := B.n0
  rw [sy_at h n (by omega)]
  unfold staB
  rw [if_pos ((lv_gv _ (B.loc _ (by omega)).k1 (B.loc _ (by omega)).k2).2.1 B.la)]
theorem sy_arg {count : Int} {h : Nat → ON} {n i q : Nat} (B : Blk count h n) (hi : i < n) (hs : syF h n i = true) (hq : q < tkN (h i).kd) : syF h n (arg (h i) q) = true := by
  obtain ⟨a1, a2⟩ := B.ar i hi q hq
  generalize hj : arg (h i) q = j at *
  rw [sy_at h n hi] at hs
  rw [sy_at h n (by omega)]
  have ht : (neS h n (n - 1 - i + 1)).d.tk j = true := by
    show (if staB (neS h n (n - 1 - i)).d (n - 1 - (n - 1 - i)) (h (n - 1 - (n - 1 - i))) then askN (neS h n (n - 1 - i)).d (h (n - 1 - (n - 1 - i))) else (neS h n (n - 1 - i)).d : ND).tk j = true
    rw [show n - 1 - (n - 1 - i) = i by omega, if_pos hs]
    show tkSet _ (h i) (tkN (h i).kd) j = true
    rw [← hj]
    exact tkSet_at _ hq
  have ht2 := ne_mono h n ht (i - 1 - j)
  rw [show n - 1 - i + 1 + (i - 1 - j) = n - 1 - j by omega] at ht2
  unfold staB
  split
  · rfl
  · rw [if_neg ((lv_gv _ (B.loc j (by omega)).k1 (B.loc j (by omega)).k2).1 a2)]
    exact ht2
structure KInv (count : Int) (h : Nat → ON) (sy : Nat → Bool) (n i : Nat) (x : KS) : Prop where
  lok : LOk count x.l
  en : ∀ j, j < x.l.length → enN (hOf x.l j).kd = true → i = n ∧ j + 1 = x.l.length
  tt : ∀ p, p < i → sy p = true → ∃ v, x.t p = some v ∧ v < x.l.length ∧ (hOf x.l v).kd = (h p).kd
  la : i = n → 0 < x.l.length ∧ enN (hOf x.l (x.l.length - 1)).kd = true
theorem kinv_zero (count : Int) (h : Nat → ON) (sy : Nat → Bool) (n : Nat) (hn : 0 < n) : KInv count h sy n 0 (keS h sy 0) :=
  ⟨⟨fun j hj => absurd hj (Nat.not_lt_zero _), fun j hj => absurd hj (Nat.not_lt_zero _), fun j => by (show (hOf [] j).k < _; rw [hOf_out (Nat.zero_le _)]; exact (by decide : (0 : Nat) < 4294967296))⟩, fun j hj => absurd hj (Nat.not_lt_zero _), fun p hp => absurd hp (Nat.not_lt_zero _), fun q => by omega⟩
theorem kinv_step {count : Int} {h : Nat → ON} {n i : Nat} {sy : Nat → Bool} (B : Blk count h n) (ks : ∀ i, (h i).k < 4294967296) (hy : ∀ i q, i < n → sy i = true → q < tkN (h i).kd → sy (arg (h i) q) = true) (hz : sy (n - 1) = true) (I : KInv count h sy n i (keS h sy i)) (hi : i < n) : KInv count h sy n (i + 1) (keS h sy (i + 1)) := by
  have noen : ∀ j, j < (keS h sy i).l.length → ¬ enN (hOf (keS h sy i).l j).kd = true := fun j hj q => by
    have := (I.en j hj q).1
    omega
  cases hs : sy i with
  | false =>
    have e : keS h sy (i + 1) = keS h sy i := by show (if sy i then _ else _ : KS) = _; rw [if_neg (by rw [hs]; decide)]
    rw [e]
    refine ⟨I.lok, fun j hj q => absurd q (noen j hj), fun p hp q => I.tt p (by
      by_cases e : p = i
      · rw [e, hs] at q; cases q
      · omega) q, fun q => ?_⟩
    rw [show n - 1 = i by omega, hs] at hz; cases hz
  | true =>
    generalize hx : keS h sy i = x at *
    have e : keS h sy (i + 1) = ⟨x.l ++ [ren (h i) (upd x.t i (some x.l.length))], upd x.t i (some x.l.length)⟩ := by show (if sy i then _ else _ : KS) = _; rw [if_pos hs, hx]
    rw [e]
    have ha : ∀ q, q < tkN (h i).kd → Val x.l (arg (ren (h i) (upd x.t i (some x.l.length))) q) := fun q hq => by
      obtain ⟨a1, a2⟩ := B.ar i hi q hq
      obtain ⟨v, v1, v2, v3⟩ := I.tt _ a1 (hy i q hi hs hq)
      rw [ren_arg _ _ _ hq]
      unfold upd
      rw [if_neg (by omega), v1]
      exact ⟨v2, by show gvN (hOf x.l v).kd = true; rw [v3]; exact a2⟩
    generalize hy' : ren (h i) (upd x.t i (some x.l.length)) = y at *
    have yk : y.kd = (h i).kd := by rw [← hy']; rfl
    have ykk : y.k = (h i).k := by rw [← hy']; rfl
    have ll : (x.l ++ [y]).length = x.l.length + 1 := by simp
    refine ⟨I.lok.app (by rw [← hy']; exact ren_loc count _ _ (B.loc i hi)) (by rw [yk]; exact ha) (by rw [ykk]; exact ks i), fun j hj q => ?_, fun p hp q => ?_, fun q => ?_⟩
    · have hj' : j < (x.l ++ [y]).length := hj
      have q' : enN (hOf (x.l ++ [y]) j).kd = true := q
      show i + 1 = n ∧ j + 1 = (x.l ++ [y]).length
      by_cases e : j < x.l.length
      · rw [hOf_old e] at q'; exact absurd q' (noen j e)
      · have ej : j = x.l.length := by omega
        rw [ej, hOf_new, yk] at q'
        exact ⟨B.en i hi q', by omega⟩
    · show ∃ v, upd x.t i (some x.l.length) p = some v ∧ v < (x.l ++ [y]).length ∧ (hOf (x.l ++ [y]) v).kd = (h p).kd
      unfold upd
      by_cases e : p = i
      · rw [if_pos e, e]
        exact ⟨_, rfl, by omega, by rw [hOf_new]; exact yk⟩
      · rw [if_neg e]
        obtain ⟨v, v1, v2, v3⟩ := I.tt p (by omega) q
        exact ⟨v, v1, by omega, by rw [hOf_old v2]; exact v3⟩
    · show 0 < (x.l ++ [y]).length ∧ enN (hOf (x.l ++ [y]) ((x.l ++ [y]).length - 1)).kd = true
      refine ⟨by omega, ?_⟩
      rw [ll, Nat.add_sub_cancel, hOf_new, yk, show i = n - 1 by omega]
      exact B.la
theorem kinv_all {count : Int} {h : Nat → ON} {n : Nat} {sy : Nat → Bool} (B : Blk count h n) (ks : ∀ i, (h i).k < 4294967296) (hy : ∀ i q, i < n → sy i = true → q < tkN (h i).kd → sy (arg (h i) q) = true) (hz : sy (n - 1) = true) : ∀ i, i ≤ n → KInv count h sy n i (keS h sy i)
  | 0, _ => kinv_zero count h sy n B.n0
  | i + 1, hi => kinv_step B ks hy hz (kinv_all B ks hy hz i (by omega)) (by omega)
theorem ned_blk {count : Int} {h : Nat → ON} {n : Nat} (B : Blk count h n) (ks : ∀ i, (h i).k < 4294967296) : Blk count (hOf (keS h (syF h n) n).l) (keS h (syF h n) n).l.length ∧ ∀ i, (hOf (keS h (syF h n) n).l i).k < 4294967296 := by
  have I := kinv_all B ks (fun i q hi hs hq => sy_arg B hi hs hq) (sy_last B) n (Nat.le_refl _)
  have hla := I.la rfl
  exact ⟨⟨hla.1, Nat.le_trans (keS_len h (syF h n) n) B.n1, I.lok.loc, I.lok.ar, fun i hi q => (I.en i hi q).2, hla.2⟩, I.lok.ks⟩
theorem g_ned {count bytes : Int} {l : List ON} (g : G count bytes l) : G count bytes (nedL l) := by
  obtain ⟨h1, h2, h3⟩ := (G_iff count bytes l).1 g
  exact (G_iff count bytes (nedL l)).2 ⟨h1, ned_blk h2 h3⟩
end Go.Proofs.Ytmnifblbacgeoab
namespace Go.Proofs.Ytmnifblbacgeoab
open Go.RowKit
open Go.Maps
set_option maxRecDepth 100000
set_option linter.unusedVariables false
set_option linter.unusedSimpArgs false

/-! ## It ends -/
def mu : List ON → Nat
  | [] => 0
  | o :: l => 3 + wt o.kd + mu l
theorem mu_app : ∀ (l : List ON) (y : ON), mu (l ++ [y]) = mu l + (3 + wt y.kd)
  | [], y => by show 3 + wt y.kd + 0 = 0 + (3 + wt y.kd); omega
  | o :: l, y => by
    show 3 + wt o.kd + mu (l ++ [y]) = 3 + wt o.kd + mu l + _
    rw [mu_app l y]; omega
def pre (h : Nat → ON) : Nat → Nat
  | 0 => 0
  | i + 1 => pre h i + (3 + wt (h i).kd)
theorem pre_lt (h : Nat → ON) {m : Nat} : ∀ d, pre h m < pre h (m + 1 + d)
  | 0 => by show pre h m < pre h m + _; omega
  | d + 1 => by
    have := pre_lt h (m := m) d
    show pre h m < pre h (m + 1 + d) + _
    omega
theorem list_ext {l : List ON} {l' : List ON} (hl : l.length = l'.length) (h : ∀ j, j < l.length → hOf l j = hOf l' j) : l = l' := by
  apply List.ext_getElem hl
  intro i hi hi'
  have := h i hi
  unfold hOf at this
  simpa [List.getD_eq_getElem?_getD, List.getElem?_eq_getElem hi, List.getElem?_eq_getElem hi'] using this
theorem mu_pre : ∀ (l : List ON) (h : Nat → ON), (∀ j, j < l.length → hOf l j = h j) → mu l = pre h l.length := by
  intro l
  induction hn : l.length generalizing l with
  | zero => 
    intro h _
    have : l = [] := List.length_eq_zero_iff.1 hn
    rw [this]; rfl
  | succ n ih =>
    intro h hh
    have hne : l ≠ [] := fun e => by rw [e] at hn; cases hn
    have e := List.dropLast_concat_getLast hne
    generalize hd : l.dropLast = d at *
    generalize ht : l.getLast hne = t at *
    have dl : d.length = n := by rw [← hd]; simp [hn]
    subst e
    rw [mu_app, ih d dl h (fun j hj => by
      have := hh j (by omega)
      rwa [hOf_old (by omega)] at this)]
    have h1 := hh n (by omega)
    rw [← dl, hOf_new] at h1
    show _ = pre h n + (3 + wt (h n).kd)
    rw [← dl, ← h1]
/-- All laid as it came. -/
structure MA (h : Nat → ON) (i : Nat) (x : TS) : Prop where
  lf : x.s.lft = false
  len : x.s.l.length = i
  hs : ∀ j, j < i → hOf x.s.l j = h j
  tp : ∀ p, p < i → x.t p = some p
theorem MA.mu {h : Nat → ON} {i : Nat} {x : TS} (a : MA h i x) : mu x.s.l = pre h i := by
  have := mu_pre x.s.l h (fun j hj => a.hs j (by rw [← a.len]; exact hj))
  rwa [a.len] at this
def Md (h : Nat → ON) (n i : Nat) (x : TS) : Prop := MA h i x ∨ mu x.s.l < pre h i ∨ (x.s.lft = true ∧ ∃ m, m < n ∧ mu x.s.l ≤ pre h m)
theorem md_zero (h : Nat → ON) (n : Nat) : Md h n 0 (runS h 0) := .inl ⟨rfl, rfl, fun j hj => absurd hj (Nat.not_lt_zero _), fun j hj => absurd hj (Nat.not_lt_zero _)⟩
theorem ma_ren {count : Int} {h : Nat → ON} {n i : Nat} {x : TS} (B : Blk count h n) (hi : i < n) (a : MA h i x) : ren (h i) x.t = h i := ren_id _ _ fun q hq => a.tp _ (B.ar i hi q hq).1
theorem md_step {count : Int} {h : Nat → ON} {n i : Nat} (B : Blk count h n) (ks : ∀ i, (h i).k < 4294967296) (hc : 0 ≤ count) (hi : i < n) (m : Md h n i (runS h i)) : Md h n (i + 1) (runS h (i + 1)) ∧ (MA h (i + 1) (runS h (i + 1)) → MA h i (runS h i)) := by
  have I := inv_all B ks hc i (by omega)
  have pn : pre h (i + 1) = pre h i + (3 + wt (h i).kd) := rfl
  cases hl : (runS h i).s.lft with
  | true =>
    have e : runS h (i + 1) = runS h i := by show (if (runS h i).s.lft then _ else _) = _; rw [if_pos hl]
    rw [e]
    refine ⟨?_, fun a => ?_⟩
    · rcases m with a | b | c
      · rw [a.lf] at hl; cases hl
      · exact .inr (.inl (by omega))
      · exact .inr (.inr c)
    · rw [a.lf] at hl; cases hl
  | false =>
    have P := inv_pok B ks I hi hl
    have D := dr_do count _ _ P hc
    rw [runS_next h i hl]
    generalize hx : runS h i = x at *
    show Md h n (i + 1) ⟨(doS x.s (ren (h i) x.t)).1, upd x.t i (doS x.s (ren (h i) x.t)).2⟩ ∧ (MA h (i + 1) ⟨(doS x.s (ren (h i) x.t)).1, upd x.t i (doS x.s (ren (h i) x.t)).2⟩ → MA h i x)
    generalize hr : doS x.s (ren (h i) x.t) = r at *
    have key : Md h n (i + 1) ⟨r.1, upd x.t i r.2⟩ ∧ (¬ MA h i x → mu r.1.l < pre h (i + 1)) := by
      rcases D.lay with ⟨e1, e2, e3⟩ | ⟨y, y1, y2, y3, y4, y5, y6, y7, y8, y9, y10⟩
      · have hm : mu r.1.l < pre h (i + 1) := by
          rw [e1]
          rcases m with a | b | c
          · have := a.mu; omega
          · omega
          · rw [hl] at c; exact absurd c.1 (by decide)
        exact ⟨.inr (.inl hm), fun _ => hm⟩
      · have w9 : wt y.kd ≤ wt (h i).kd := y9
        have hm : mu r.1.l = mu x.s.l + (3 + wt y.kd) := by rw [y1, mu_app]
        rcases m with a | b | c
        · refine ⟨?_, fun q => absurd a q⟩
          have am := a.mu
          by_cases e : wt y.kd = wt (h i).kd
          · rcases y10 e with ⟨z1, z2⟩ | ⟨z1, z2⟩
            · rw [ma_ren B hi a] at z1
              refine .inl ⟨z2.trans hl, by show r.1.l.length = i + 1; rw [y1]; simp [a.len], fun j hj => ?_, fun p hp => ?_⟩
              · show hOf r.1.l j = h j
                rw [y1]
                by_cases ej : j < i
                · rw [hOf_old (by rw [a.len]; exact ej)]; exact a.hs j ej
                · have ej : j = x.s.l.length := by rw [a.len]; omega
                  rw [ej, hOf_new, z1, a.len]
              · show upd x.t i r.2 p = some p
                unfold upd
                by_cases ep : p = i
                · rw [if_pos ep, y5, a.len, ep]
                · rw [if_neg ep]; exact a.tp p (by omega)
            · have z2' : enN (h i).kd = false := z2
              refine .inr (.inr ⟨z1, i + 1, ?_, by show mu r.1.l ≤ _; omega⟩)
              by_cases ei : i + 1 = n
              · have := B.la
                rw [show n - 1 = i by omega, z2'] at this
                cases this
              · omega
          · exact .inr (.inl (by show mu r.1.l < _; omega))
        · have hm2 : mu r.1.l < pre h (i + 1) := by omega
          exact ⟨.inr (.inl hm2), fun _ => hm2⟩
        · rw [hl] at c; exact absurd c.1 (by decide)
    refine ⟨key.1, fun a => ?_⟩
    refine Classical.byContradiction fun q => ?_
    have h1 := key.2 q
    have h2 : mu r.1.l = pre h (i + 1) := a.mu
    omega
theorem md_all {count : Int} {h : Nat → ON} {n : Nat} (B : Blk count h n) (ks : ∀ i, (h i).k < 4294967296) (hc : 0 ≤ count) : ∀ i, i ≤ n → Md h n i (runS h i)
  | 0, _ => md_zero h n
  | i + 1, hi => (md_step B ks hc (by omega) (md_all B ks hc i (by omega))).1
theorem ma_down {count : Int} {h : Nat → ON} {n : Nat} (B : Blk count h n) (ks : ∀ i, (h i).k < 4294967296) (hc : 0 ≤ count) (i : Nat) : ∀ d, i + d ≤ n → MA h (i + d) (runS h (i + d)) → MA h i (runS h i)
  | 0, _, a => a
  | d + 1, hd, a => ma_down B ks hc i d (by omega) ((md_step B ks hc (by omega) (md_all B ks hc (i + d) (by omega))).2 a)
theorem set_mu {count : Int} {l : List ON} (B : Blk count (hOf l) l.length) (ks : ∀ i, (hOf l i).k < 4294967296) (hc : 0 ≤ count) : MA (hOf l) l.length (runS (hOf l) l.length) ∨ mu (setL l) < mu l := by
  have ml : mu l = pre (hOf l) l.length := mu_pre l (hOf l) fun _ _ => rfl
  rcases md_all B ks hc l.length (Nat.le_refl _) with a | b | ⟨-, m, m1, m2⟩
  · exact .inl a
  · exact .inr (by rw [ml]; exact b)
  · refine .inr (Nat.lt_of_le_of_lt m2 ?_)
    have := pre_lt (hOf l) (m := m) (l.length - m - 1)
    rw [show m + 1 + (l.length - m - 1) = l.length by omega] at this
    rw [ml]; exact this
theorem ma_eq {l : List ON} (a : MA (hOf l) l.length (runS (hOf l) l.length)) : setL l = l := by
  have hl : (setL l).length = l.length := a.len
  exact list_ext hl fun j hj => a.hs j (by omega)
/-- All stay as they came. -/
structure KA (h : Nat → ON) (sy : Nat → Bool) (i : Nat) (x : KS) : Prop where
  len : x.l.length = i
  hs : ∀ j, j < i → hOf x.l j = h j
  tp : ∀ p, p < i → x.t p = some p
  sy : ∀ p, p < i → sy p = true
theorem KA.mu {h : Nat → ON} {sy : Nat → Bool} {i : Nat} {x : KS} (a : KA h sy i x) : mu x.l = pre h i := by
  have := mu_pre x.l h (fun j hj => a.hs j (by rw [← a.len]; exact hj))
  rwa [a.len] at this
theorem ka_all {count : Int} {h : Nat → ON} {n : Nat} (B : Blk count h n) (sy : Nat → Bool) : ∀ i, i ≤ n → KA h sy i (keS h sy i) ∨ mu (keS h sy i).l < pre h i
  | 0, _ => .inl ⟨rfl, fun j hj => absurd hj (Nat.not_lt_zero _), fun j hj => absurd hj (Nat.not_lt_zero _), fun j hj => absurd hj (Nat.not_lt_zero _)⟩
  | i + 1, hi => by
    have ih := ka_all B sy i (by omega)
    have pn : pre h (i + 1) = pre h i + (3 + wt (h i).kd) := rfl
    cases hs : sy i with
    | false =>
      have e : keS h sy (i + 1) = keS h sy i := by show (if sy i then _ else _ : KS) = _; rw [if_neg (by rw [hs]; decide)]
      rw [e]
      refine .inr ?_
      rcases ih with a | b
      · have := a.mu; omega
      · omega
    | true =>
      generalize hx : keS h sy i = x at *
      have e : keS h sy (i + 1) = ⟨x.l ++ [ren (h i) (upd x.t i (some x.l.length))], upd x.t i (some x.l.length)⟩ := by show (if sy i then _ else _ : KS) = _; rw [if_pos hs, hx]
      rw [e]
      rcases ih with a | b
      · have er : ren (h i) (upd x.t i (some x.l.length)) = h i := ren_id _ _ fun q hq => by
          have := (B.ar i (by omega) q hq).1
          unfold upd
          rw [if_neg (by omega)]
          exact a.tp _ this
        rw [er]
        refine .inl ⟨by show (x.l ++ [h i]).length = _; simp [a.len], fun j hj => ?_, fun p hp => ?_, fun p hp => ?_⟩
        · show hOf (x.l ++ [h i]) j = h j
          by_cases ej : j < i
          · rw [hOf_old (by rw [a.len]; exact ej)]; exact a.hs j ej
          · have ej : j = x.l.length := by rw [a.len]; omega
            rw [ej, hOf_new, a.len]
        · show upd x.t i (some x.l.length) p = some p
          unfold upd
          by_cases ep : p = i
          · rw [if_pos ep, a.len, ep]
          · rw [if_neg ep]; exact a.tp p (by omega)
        · by_cases ep : p = i
          · rw [ep]; exact hs
          · exact a.sy p (by omega)
      · refine .inr ?_
        show mu (x.l ++ [ren (h i) (upd x.t i (some x.l.length))]) < _
        rw [mu_app]
        show mu x.l + (3 + wt (h i).kd) < _
        omega
theorem ned_mu {count : Int} {l : List ON} (B : Blk count (hOf l) l.length) : (nedL l = l ∧ ∀ p, p < l.length → syF (hOf l) l.length p = true) ∨ mu (nedL l) < mu l := by
  have ml : mu l = pre (hOf l) l.length := mu_pre l (hOf l) fun _ _ => rfl
  rcases ka_all B (syF (hOf l) l.length) l.length (Nat.le_refl _) with a | b
  · have hl : (nedL l).length = l.length := a.len
    exact .inl ⟨list_ext hl fun j hj => a.hs j (by omega), a.sy⟩
  · exact .inr (by rw [ml]; exact b)
theorem good (count bytes : Int) : GoodP (G count bytes) mu := by
  refine ⟨fun g => ?_, fun g => ?_, fun g => ?_, fun g => ?_, g_set, g_ned, fun g hp => ?_⟩
  · exact ((G_iff _ _ _).1 g).2.1.n0
  · exact ((G_iff _ _ _).1 g).2.1.n1
  · obtain ⟨h1, h2, h3⟩ := (G_iff _ _ _).1 g
    exact set_ok h2 h3 h1.1.1 h1.1.2
  · exact ne_ok ((G_iff _ _ _).1 g).2.1
  · obtain ⟨h1, h2, h3⟩ := (G_iff _ _ _).1 g
    have k2 := ((G_iff _ _ _).1 (g_set g)).2.1
    unfold pass at hp ⊢
    rcases set_mu h2 h3 h1.1.1 with a | b
    · rw [ma_eq a] at hp ⊢
      rcases ned_mu h2 with ⟨c, -⟩ | d
      · exact absurd c hp
      · exact d
    · rcases ned_mu k2 with ⟨c, -⟩ | d
      · rw [c]; exact b
      · omega
/-- A block that no pass changes: each operation is laid, and stays, as it came. -/
theorem fixed {count bytes : Int} {l : List ON} (g : G count bytes l) (hp : pass l = l) : (∀ i, i ≤ l.length → MA (hOf l) i (runS (hOf l) i)) ∧ ∀ p, p < l.length → syF (hOf l) l.length p = true := by
  obtain ⟨h1, h2, h3⟩ := (G_iff _ _ _).1 g
  have k2 := ((G_iff _ _ _).1 (g_set g)).2.1
  unfold pass at hp
  have a : MA (hOf l) l.length (runS (hOf l) l.length) := by
    rcases set_mu h2 h3 h1.1.1 with a | b
    · exact a
    · exfalso
      have e : mu (nedL (setL l)) = mu l := by rw [hp]
      rcases ned_mu k2 with ⟨c, -⟩ | d
      · rw [c] at e; omega
      · omega
  rw [ma_eq a] at hp
  refine ⟨fun i hi => ma_down h2 h3 h1.1.1 i (l.length - i) (by omega) (by rw [show i + (l.length - i) = l.length by omega]; exact a), ?_⟩
  rcases ned_mu h2 with ⟨-, c⟩ | d
  · exact c
  · rw [hp] at d; omega
end Go.Proofs.Ytmnifblbacgeoab
