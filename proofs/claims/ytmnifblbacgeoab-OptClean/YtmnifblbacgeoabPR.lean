import Derived.Test.YtmnifblbacgeoabPM
namespace Go.Proofs.Ytmnifblbacgeoab
open Go.RowKit
open Go.Maps
set_option maxRecDepth 100000
set_option linter.unusedVariables false
set_option linter.unusedSimpArgs false

/-! ## What no pass changes is clean -/
structure StC (s : SE) (o : ON) : Prop where
  p6 : o.kd = 6 → isC s.l o.a = false
  oc : isP o.kd = true → ofC s.l o = false
  fn : isP o.kd = true → fnd s.l o = none
  g : o.kd = 2 → s.sl o.w = none
  p : o.kd = 3 → s.sl o.w ≠ some o.a
  a : o.kd = 12 ∨ o.kd = 13 → isC s.l o.a = false
  t : o.kd = 17 → s.now = none ∧ knB s = false
  nsl : (doS s o).1.sl = if o.kd = 2 then upd s.sl o.w (some s.l.length) else if o.kd = 3 then upd s.sl o.w (some o.a) else s.sl
  nnw : (doS s o).1.now.isSome = if o.kd = 3 then s.now.isSome && decide (o.w < 8) else if o.kd = 17 then true else s.now.isSome
theorem rec_c (s : SE) (o : ON) (hl : (recS s o).1.l.length = s.l.length + 1) : ¬ (o.kd = 6 ∧ isC s.l o.a = true) ∧ fnd s.l (recO s o) = none ∧ recS s o = ({ s with l := s.l ++ [recO s o] }, some s.l.length) := by
  unfold recS at hl ⊢
  by_cases h6 : o.kd = 6 ∧ isC s.l o.a = true
  · rw [if_pos h6] at hl
    have : s.l.length = s.l.length + 1 := hl
    omega
  · rw [if_neg h6] at hl ⊢
    cases hf : fnd s.l (recO s o) with
    | some j =>
      rw [hf] at hl
      have : s.l.length = s.l.length + 1 := hl
      omega
    | none => exact ⟨h6, rfl, rfl⟩
theorem recO_p (s : SE) (o : ON) (h : isP o.kd = true) : isP (recO s o).kd = true := by
  unfold recO
  split
  · rfl
  · exact h
theorem st_c (s : SE) (o : ON) (hl : (doS s o).1.l.length = s.l.length + 1) (hf : (doS s o).1.lft = false) (ho : hOf (doS s o).1.l s.l.length = o) : StC s o := by
  by_cases hp : isP o.kd = true
  · have e : doS s o = recS s o := by unfold doS; rw [if_pos hp]
    rw [e] at hl ho
    obtain ⟨h6, h7, h8⟩ := rec_c s o hl
    rw [h8] at ho
    have ho' : hOf (s.l ++ [recO s o]) s.l.length = o := ho
    rw [hOf_new] at ho'
    have hoc : ofC s.l o = false := by
      cases hq : ofC s.l o with
      | false => rfl
      | true =>
        exfalso
        have e2 : recO s o = cstO (vOf o (s.l.getD o.a onD).k (s.l.getD o.b onD).k (s.l.getD o.c onD).k) := by unfold recO; rw [if_pos hq]
        have e3 : o.kd = 1 := by rw [← ho', e2]; rfl
        unfold ofC at hq
        rw [e3] at hq
        exact absurd hq (by simp [tkN, ruT])
    have k2 : ¬ o.kd = 2 := fun q => by rw [q] at hp; cases hp
    have k3 : ¬ o.kd = 3 := fun q => by rw [q] at hp; cases hp
    have k17 : ¬ o.kd = 17 := fun q => by rw [q] at hp; cases hp
    refine ⟨fun q => ?_, fun _ => hoc, fun _ => by rwa [ho'] at h7, fun q => absurd q k2, fun q => absurd q k3, fun q => ?_, fun q => absurd q k17, ?_, ?_⟩
    · cases hq : isC s.l o.a with
      | false => rfl
      | true => exact absurd ⟨q, hq⟩ h6
    · rcases q with q | q <;> (rw [q] at hp; cases hp)
    · rw [e, h8, if_neg k2, if_neg k3]
    · rw [e, h8, if_neg k3, if_neg k17]
  have hp' : isP o.kd = false := by simpa using hp
  have np : ∀ {P : Prop}, isP o.kd = true → P := fun q => absurd q hp
  by_cases k2 : o.kd = 2
  · have e : doS s o = getS s o := by unfold doS; rw [if_neg hp, if_pos k2]
    rw [e] at hl
    have hs : s.sl o.w = none := by
      unfold getS at hl
      cases hq : s.sl o.w with
      | none => rfl
      | some v =>
        rw [hq] at hl
        have : s.l.length = s.l.length + 1 := hl
        omega
    have e2 : getS s o = ({ s with l := s.l ++ [o], sl := upd s.sl o.w (some s.l.length) }, some s.l.length) := by unfold getS; rw [hs]
    exact ⟨fun q => by omega, np, np, fun _ => hs, fun q => by omega, fun q => by omega, fun q => by omega, by rw [e, e2, if_pos k2], by rw [e, e2, if_neg (by omega), if_neg (by omega)]⟩
  by_cases k3 : o.kd = 3
  · have e : doS s o = putS s o := by unfold doS; rw [if_neg hp, if_neg k2, if_pos k3]
    rw [e] at hl
    have hs : ¬ s.sl o.w = some o.a := fun q => by
      unfold putS at hl
      rw [if_pos q] at hl
      have : s.l.length = s.l.length + 1 := hl
      omega
    have e2 : putS s o = ({ s with l := s.l ++ [o], sl := upd s.sl o.w (some o.a), now := if 8 ≤ o.w then none else s.now }, some s.l.length) := by unfold putS; rw [if_neg hs]
    refine ⟨fun q => by omega, np, np, fun q => by omega, fun _ => hs, fun q => by omega, fun q => by omega, by rw [e, e2, if_neg k2, if_pos k3], ?_⟩
    rw [e, e2, if_pos k3]
    show (if 8 ≤ o.w then none else s.now : Option Nat).isSome = _
    by_cases q : 8 ≤ o.w
    · rw [if_pos q, decide_eq_false (by omega), Bool.and_false]; rfl
    · rw [if_neg q, decide_eq_true (by omega), Bool.and_true]
  by_cases ka : o.kd = 12 ∨ o.kd = 13
  · have e : doS s o = askS s o := by unfold doS; rw [if_neg hp, if_neg k2, if_neg k3, if_pos ka]
    rw [e] at hl hf
    have hs : isC s.l o.a = false := by
      cases hq : isC s.l o.a with
      | false => rfl
      | true =>
        exfalso
        unfold askS at hl hf
        rw [if_neg (by rw [hq]; decide)] at hl hf
        by_cases h0 : (s.l.getD o.a onD).k = 0
        · rw [if_pos h0] at hl
          have : s.l.length = s.l.length + 1 := hl
          omega
        · rw [if_neg h0] at hf
          have : true = false := hf
          cases this
    have e2 : askS s o = ({ s with l := s.l ++ [o] }, some s.l.length) := by unfold askS; rw [if_pos hs]
    exact ⟨fun q => by omega, np, np, fun q => by omega, fun q => by omega, fun _ => hs, fun q => by omega, by rw [e, e2, if_neg k2, if_neg k3], by rw [e, e2, if_neg k3, if_neg (by omega)]⟩
  by_cases k17 : o.kd = 17
  · have e : doS s o = telS s o := by unfold doS; rw [if_neg hp, if_neg k2, if_neg k3, if_neg ka, if_pos k17]
    rw [e] at hl ho
    have hs : s.now = none := by
      unfold telS at hl
      cases hq : s.now with
      | none => rfl
      | some v =>
        rw [hq] at hl
        have : s.l.length = s.l.length + 1 := hl
        omega
    have hkn : knB s = false := by
      cases hq : knB s with
      | false => rfl
      | true =>
        exfalso
        have e2 : telS s o = recS s (mdO s) := by unfold telS; rw [hs]; show (if knB s = true then _ else _) = _; rw [if_pos hq]
        rw [e2] at hl ho
        obtain ⟨-, -, h8⟩ := rec_c s (mdO s) hl
        rw [h8] at ho
        have ho' : hOf (s.l ++ [recO s (mdO s)]) s.l.length = o := ho
        rw [hOf_new] at ho'
        have := recO_p s (mdO s) rfl
        rw [ho'] at this
        exact hp this
    have e2 : telS s o = ({ s with l := s.l ++ [o], now := some s.l.length }, some s.l.length) := by unfold telS; rw [hs]; show (if knB s = true then _ else _) = _; rw [if_neg (by rw [hkn]; decide)]
    exact ⟨fun q => by omega, np, np, fun q => by omega, fun q => by omega, fun q => by omega, fun _ => ⟨hs, hkn⟩, by rw [e, e2, if_neg k2, if_neg k3], by rw [e, e2, if_neg k3, if_pos k17]; rfl⟩
  · have e : doS s o = ({ s with l := s.l ++ [o] }, some s.l.length) := by unfold doS; rw [if_neg hp, if_neg k2, if_neg k3, if_neg ka, if_neg k17]
    exact ⟨fun q => by (rw [q] at hp'; cases hp'), np, np, fun q => absurd q k2, fun q => absurd q k3, fun q => absurd q ka, fun q => absurd q k17, by rw [e, if_neg k2, if_neg k3], by rw [e, if_neg k3, if_neg k17]⟩
structure FX (count : Int) (h : Nat → ON) (n : Nat) : Prop where
  B : Blk count h n
  ks : ∀ i, (h i).k < 4294967296
  c0 : 0 ≤ count
  A : ∀ i, i ≤ n → MA h i (runS h i)
  S : ∀ p, p < n → syF h n p = true
theorem FX.st {count : Int} {h : Nat → ON} {n i : Nat} (F : FX count h n) (hi : i < n) : StC (runS h i).s (h i) ∧ (runS h (i + 1)).s = (doS (runS h i).s (h i)).1 := by
  have a := F.A i (by omega)
  have b := F.A (i + 1) (by omega)
  rw [runS_next h i a.lf] at b
  have e : stS h i (runS h i) = ⟨(doS (runS h i).s (ren (h i) (runS h i).t)).1, upd (runS h i).t i (doS (runS h i).s (ren (h i) (runS h i).t)).2⟩ := rfl
  rw [e, ma_ren F.B hi a] at b
  refine ⟨st_c _ _ ?_ b.lf ?_, ?_⟩
  · rw [a.len]; exact b.len
  · rw [a.len]; exact b.hs i (by omega)
  · rw [runS_next h i a.lf, e, ma_ren F.B hi a]
theorem FX.at {count : Int} {h : Nat → ON} {n i j : Nat} (F : FX count h n) (hi : i ≤ n) (hj : j < i) : isC (runS h i).s.l j = decide ((h j).kd = 1) := by
  have e := (F.A i hi).hs j hj
  show decide ((hOf (runS h i).s.l j).kd = 1) = _
  rw [e]
theorem FX.sl {count : Int} {h : Nat → ON} {n : Nat} (F : FX count h n) : ∀ k, k ≤ n → (slS h k).hs = (runS h k).s.sl
  | 0, _ => rfl
  | k + 1, hk => by
    obtain ⟨c, e⟩ := F.st (i := k) (by omega)
    have ih := F.sl k (by omega)
    rw [e, c.nsl, (F.A k (by omega)).len, ← ih]
    show (slN (slS h k) k (h k)).hs = _
    unfold slN
    by_cases k2 : (h k).kd = 2
    · rw [if_pos k2, if_pos k2]
    rw [if_neg k2, if_neg k2]
    by_cases k3 : (h k).kd = 3
    · rw [if_pos k3, if_pos k3]
    rw [if_neg k3, if_neg k3]
    by_cases k17 : (h k).kd = 17
    · rw [if_pos k17]
    rw [if_neg k17]
    split <;> rfl
theorem FX.ak {count : Int} {h : Nat → ON} {n : Nat} (F : FX count h n) : ∀ k, k ≤ n → (akS h k).hs = (runS h k).s.sl ∧ (akS h k).nw = (runS h k).s.now.isSome
  | 0, _ => ⟨rfl, rfl⟩
  | k + 1, hk => by
    obtain ⟨c, e⟩ := F.st (i := k) (by omega)
    obtain ⟨i1, i2⟩ := F.ak k (by omega)
    rw [e, c.nsl, c.nnw, (F.A k (by omega)).len, ← i1, ← i2]
    show (akN (akS h k) k (h k)).hs = _ ∧ (akN (akS h k) k (h k)).nw = _
    unfold akN
    by_cases k2 : (h k).kd = 2
    · rw [if_pos k2, if_pos k2, if_neg (by omega), if_neg (by omega)]; exact ⟨rfl, rfl⟩
    rw [if_neg k2, if_neg k2]
    by_cases k3 : (h k).kd = 3
    · rw [if_pos k3, if_pos k3, if_pos k3]; exact ⟨rfl, rfl⟩
    rw [if_neg k3, if_neg k3, if_neg k3]
    by_cases k17 : (h k).kd = 17
    · rw [if_pos k17, if_pos k17]; exact ⟨rfl, rfl⟩
    rw [if_neg k17, if_neg k17]; exact ⟨rfl, rfl⟩
theorem lv_same (k : Nat) (h1 : 1 ≤ k) (h2 : k ≤ 17) : (enN k = false → (ruT k).leaves = lvB k) ∧ rgiv (k : Int) = gvN k ∧ (isP k = true → k ≠ 1 → 0 < tkN k) ∧ (k = 2 ∨ k = 3 ∨ k = 17 → lvB k = false) := by
  rcases (by omega : k = 1 ∨ k = 2 ∨ k = 3 ∨ k = 4 ∨ k = 5 ∨ k = 6 ∨ k = 7 ∨ k = 8 ∨ k = 9 ∨ k = 10 ∨ k = 11 ∨ k = 12 ∨ k = 13 ∨ k = 14 ∨ k = 15 ∨ k = 16 ∨ k = 17) with rfl | rfl | rfl | rfl | rfl | rfl | rfl | rfl | rfl | rfl | rfl | rfl | rfl | rfl | rfl | rfl | rfl <;> exact ⟨by decide, by decide, by decide, by decide⟩
theorem FX.ne {count : Int} {h : Nat → ON} {n k : Nat} (F : FX count h n) (hk : k < n) : (neS h n (n - k)).d = askN (neS h n (n - 1 - k)).d (h k) ∧ staB (neS h n (n - 1 - k)).d k (h k) = true := by
  have hs := F.S k hk
  rw [sy_at h n hk] at hs
  refine ⟨?_, hs⟩
  rw [show n - k = (n - 1 - k) + 1 by omega]
  show (if staB (neS h n (n - 1 - k)).d (n - 1 - (n - 1 - k)) (h (n - 1 - (n - 1 - k))) then askN (neS h n (n - 1 - k)).d (h (n - 1 - (n - 1 - k))) else (neS h n (n - 1 - k)).d : ND) = _
  rw [show n - 1 - (n - 1 - k) = k by omega, if_pos hs]
theorem FX.op {count : Int} {h : Nat → ON} {n : Nat} (F : FX count h n) (w : Nat) : ∀ k, k < n → (slS h k).op w = true → ((slS h k).hs w).isSome = true ∧ (neS h n (n - k)).d.sn w = true
  | 0, _, q => by
    have q' : false = true := q
    cases q'
  | k + 1, hk, q => by
    have ih := F.op w k (by omega)
    obtain ⟨e, hs⟩ := F.ne (k := k) (by omega)
    obtain ⟨c, -⟩ := F.st (i := k) (by omega)
    have L := F.B.loc k (by omega)
    obtain ⟨v1', -, -, v4⟩ := lv_same _ L.k1 L.k2
    have v1 : (ruT (h k).kd).leaves = lvB (h k).kd := v1' (by
      cases he : enN (h k).kd with
      | false => rfl
      | true => exact absurd (F.B.en k (by omega) he) (by omega))
    have hsl := F.sl k (by omega)
    rw [e] at ih
    rw [show n - (k + 1) = n - 1 - k by omega]
    have q' : (slN (slS h k) k (h k)).op w = true := q
    show ((slN (slS h k) k (h k)).hs w).isSome = true ∧ _
    unfold slN at q' ⊢
    unfold askN at ih
    unfold staB at hs
    simp only [v1] at ih hs
    by_cases k2 : (h k).kd = 2
    · rw [if_pos k2] at q' ⊢
      have q2 : (slS h k).op w = true := q'
      obtain ⟨i1, i2⟩ := ih q2
      rw [if_neg (by rw [v4 (.inl k2)]; decide), if_neg (by omega), if_pos k2] at i2
      have g := c.g k2
      rw [← hsl] at g
      have ne : ¬ w = (h k).w := fun e => by rw [e, g] at i1; cases i1
      have i2' : upd (neS h n (n - 1 - k)).d.sn (h k).w true w = true := i2
      unfold upd at i2' 
      rw [if_neg ne] at i2'
      refine ⟨?_, i2'⟩
      show (upd (slS h k).hs (h k).w (some k) w).isSome = true
      unfold upd
      rw [if_neg ne]; exact i1
    rw [if_neg k2] at q' ⊢
    by_cases k3 : (h k).kd = 3
    · rw [if_pos k3] at q' ⊢
      by_cases ew : w = (h k).w
      · rw [if_neg (by rw [v4 (.inr (.inl k3))]; decide), if_pos k3] at hs
        refine ⟨?_, by rw [ew]; exact hs⟩
        show (upd (slS h k).hs (h k).w (some (h k).a) w).isSome = true
        unfold upd
        rw [if_pos ew]; rfl
      · have q2 : upd (slS h k).op (h k).w true w = true := q'
        unfold upd at q2
        rw [if_neg ew] at q2
        obtain ⟨i1, i2⟩ := ih q2
        rw [if_neg (by rw [v4 (.inr (.inl k3))]; decide), if_neg (by omega), if_neg k2, if_pos k3] at i2
        have i2' : upd (neS h n (n - 1 - k)).d.sn (h k).w false w = true := i2
        unfold upd at i2'
        rw [if_neg ew] at i2'
        refine ⟨?_, i2'⟩
        show (upd (slS h k).hs (h k).w (some (h k).a) w).isSome = true
        unfold upd
        rw [if_neg ew]; exact i1
    rw [if_neg k3] at q' ⊢
    by_cases k17 : (h k).kd = 17
    · rw [if_pos k17] at q' ⊢
      have q2 : (if 8 ≤ w then false else (slS h k).op w) = true := q'
      by_cases w8 : 8 ≤ w
      · rw [if_pos w8] at q2; cases q2
      rw [if_neg w8] at q2
      obtain ⟨i1, i2⟩ := ih q2
      rw [if_neg (by rw [v4 (.inr (.inr k17))]; decide), if_pos k17] at i2
      have i2' : (decide (8 ≤ w) || (neS h n (n - 1 - k)).d.sn w) = true := i2
      rw [decide_eq_false w8, Bool.false_or] at i2'
      exact ⟨i1, i2'⟩
    rw [if_neg k17] at q' ⊢
    cases hv : lvB (h k).kd with
    | true =>
      rw [if_pos hv] at q'
      have q2 : false = true := q'
      cases q2
    | false =>
      have nv : ¬ lvB (h k).kd = true := by rw [hv]; decide
      rw [if_neg nv] at q'
      rw [if_neg (by decide)]
      obtain ⟨i1, i2⟩ := ih q'
      rw [if_neg nv, if_neg k17, if_neg k2, if_neg k3] at i2
      exact ⟨i1, i2⟩
end Go.Proofs.Ytmnifblbacgeoab
namespace Go.Proofs.Ytmnifblbacgeoab
open Go.RowKit
open Go.Maps
set_option maxRecDepth 100000
set_option linter.unusedVariables false
set_option linter.unusedSimpArgs false

theorem usd_mono (h : Nat → ON) {m j : Nat} (hj : usd h m j = true) : ∀ d, usd h (m + d) j = true
  | 0 => hj
  | d + 1 => tkSet_mono (usd_mono h hj d) _
theorem usd_at (h : Nat → ON) {n i q : Nat} (hi : i < n) (hq : q < tkN (h i).kd) : usd h n (arg (h i) q) = true := by
  have := usd_mono h (m := i + 1) (j := arg (h i) q) (tkSet_at _ hq) (n - i - 1)
  rwa [show i + 1 + (n - i - 1) = n by omega] at this
theorem tkSet_some {t : Nat → Bool} {o : ON} {j : Nat} : ∀ q, tkSet t o q j = true → t j = true ∨ ∃ p, p < q ∧ arg o p = j
  | 0, h => .inl h
  | q + 1, h => by
    have h' : upd (tkSet t o q) (arg o q) true j = true := h
    unfold upd at h'
    by_cases e : j = arg o q
    · exact .inr ⟨q, by omega, e.symm⟩
    · rw [if_neg e] at h'
      rcases tkSet_some q h' with a | ⟨p, p1, p2⟩
      · exact .inl a
      · exact .inr ⟨p, by omega, p2⟩
theorem ne_tk (h : Nat → ON) (n j : Nat) : ∀ m, m ≤ n → (neS h n m).d.tk j = true → ∃ i q, i < n ∧ q < tkN (h i).kd ∧ arg (h i) q = j
  | 0, _, q => by
    have q' : false = true := q
    cases q'
  | m + 1, hm, q => by
    have q' : (if staB (neS h n m).d (n - 1 - m) (h (n - 1 - m)) then askN (neS h n m).d (h (n - 1 - m)) else (neS h n m).d : ND).tk j = true := q
    split at q'
    · rcases tkSet_some _ q' with a | ⟨p, p1, p2⟩
      · exact ne_tk h n j m (by omega) a
      · exact ⟨n - 1 - m, p, by omega, p1, p2⟩
    · exact ne_tk h n j m (by omega) q'
theorem fnd_none {l : List ON} {o : ON} (h : fnd l o = none) {j : Nat} (hj : j < l.length) : onEq (hOf l j) o = false := by
  unfold fnd at h
  rw [List.findIdx?_eq_none_iff] at h
  unfold hOf
  rw [List.getD_eq_getElem?_getD, List.getElem?_eq_getElem hj]
  have := h l[j] (List.getElem_mem hj)
  simpa using this
theorem al_of {count : Int} {h : Nat → ON} {n i : Nat} (F : FX count h n) (hi : i < n) : ∀ q, q ≤ tkN (h i).kd → alB h (h i) q = ((isP (h i).kd && decide (¬ (h i).kd = 1)) && ofCq (runS h i).s.l (h i) q)
  | 0, _ => by show _ = (_ && true); rw [Bool.and_true]; rfl
  | q + 1, hq => by
    show (alB h (h i) q && decide ((h (arg (h i) q)).kd = 1)) = (_ && (ofCq (runS h i).s.l (h i) q && isC (runS h i).s.l (arg (h i) q)))
    rw [al_of F hi q (by omega), F.at (by omega) (F.B.ar i hi q (by omega)).1, Bool.and_assoc]
theorem clean {count : Int} {l : List ON} (F : FX count (hOf l) l.length) : CleanP l := by
  have B := F.B
  generalize hh : hOf l = h at *
  generalize hn : l.length = n at *
  refine ⟨by rw [hn]; exact B.n0, by rw [hn]; exact B.n1, ?_, ?_, ?_, ?_, ?_, ?_, ?_⟩
  all_goals rw [hn, hh]
  · exact fun i hi => ⟨(B.loc i hi).k1, (B.loc i hi).k2⟩
  · exact fun i hi q hq => by have := (B.ar i hi q hq).1; omega
  · intro k hk hg h9
    obtain ⟨-, v2, -, -⟩ := lv_same _ (B.loc k hk).k1 (B.loc k hk).k2
    rw [v2] at hg
    obtain ⟨g1, -, g3⟩ := lv_gv _ (B.loc k hk).k1 (B.loc k hk).k2
    have hs := (F.ne hk).2
    unfold staB at hs
    rw [if_neg (by rw [g3 hg h9]; decide), if_neg (g1 hg)] at hs
    obtain ⟨i, q, i1, i2, i3⟩ := ne_tk h n k _ (by omega) hs
    rw [← i3]
    exact usd_at h i1 i2
  · intro i hi
    obtain ⟨c, -⟩ := F.st hi
    refine ⟨fun ht ha => ?_, ?_⟩
    · have e0 : isC (runS h i).s.l (arg (h i) 0) = true := by rw [F.at (by omega) (B.ar i hi 0 ht).1]; exact decide_eq_true ha
      have e : isC (runS h i).s.l (h i).a = true := e0
      refine ⟨fun q => ?_, fun q => ?_, fun q => ?_⟩
      · rw [c.p6 q] at e; cases e
      · rw [c.a (.inl q)] at e; cases e
      · rw [c.a (.inr q)] at e; cases e
    · rw [al_of F hi _ (Nat.le_refl _)]
      by_cases hp : isP (h i).kd = true
      · by_cases k1 : (h i).kd = 1
        · rw [k1]; rfl
        · have ht := (lv_same _ (B.loc i hi).k1 (B.loc i hi).k2).2.2.1 hp k1
          have hoc := c.oc hp
          unfold ofC at hoc
          rw [decide_eq_true ht, Bool.true_and] at hoc
          rw [hoc, Bool.and_false]
      · have hp' : isP (h i).kd = false := by simpa using hp
        rw [hp']; rfl
  · intro k hk hp i hi
    obtain ⟨c, -⟩ := F.st hk
    have a := F.A k (by omega)
    have := fnd_none (c.fn hp) (j := i) (by rw [a.len]; exact hi)
    rwa [a.hs i hi] at this
  · intro k hk
    obtain ⟨c, -⟩ := F.st hk
    have L := B.loc k hk
    refine ⟨fun q => ?_, fun q => ⟨?_, ?_⟩, fun q => ?_⟩
    · rw [F.sl k (by omega)]; exact c.g q
    · rw [F.sl k (by omega)]; exact c.p q
    · cases ho : (slS h k).op (h k).w with
      | false => rfl
      | true =>
        exfalso
        have h1 := (F.op (h k).w k hk ho).2
        rw [(F.ne hk).1] at h1
        obtain ⟨v1, -, -, v4⟩ := lv_same _ L.k1 L.k2
        have v1' := v1 (by rw [q]; rfl)
        unfold askN at h1
        simp only [v1'] at h1
        rw [if_neg (by rw [v4 (.inr (.inl q))]; decide), if_neg (by omega), if_neg (by omega), if_pos q] at h1
        have h2 : upd (neS h n (n - 1 - k)).d.sn (h k).w false (h k).w = true := h1
        unfold upd at h2
        rw [if_pos rfl] at h2
        cases h2
    · have := (hi_le _ L.k1 L.k2).2.2.2 q
      have := L.wh
      omega
  · intro k hk
    obtain ⟨c, -⟩ := F.st hk
    have L := B.loc k hk
    obtain ⟨a1, a2⟩ := F.ak k (by omega)
    have I := inv_all B F.ks F.c0 k (by omega)
    have a := F.A k (by omega)
    refine ⟨fun q => ?_, fun q v hv => ?_, fun q => ?_, fun q => ?_⟩
    · rw [a2, (c.t q).1]; rfl
    · rw [a1] at hv
      have := (I.sl 8 v hv).1
      rw [a.len] at this
      omega
    · rintro ⟨v8, v9, v10, v11, h8, h9, h10, h11, h1⟩
      rw [a1] at h8 h9 h10 h11
      have hk8 := (I.sl 8 v8 h8).1
      rw [a.len] at hk8
      have kn := (c.t q).2
      unfold knB at kn
      rw [h8, h9, h10, h11] at kn
      have kn' : isC (runS h k).s.l v8 = false := by simpa using kn
      rw [F.at (by omega) hk8, decide_eq_true h1] at kn'
      cases kn'
    · have := (hi_le _ L.k1 L.k2).2.2.2 q
      have := L.wh
      omega
/-! ## What comes in -/
def fN (o : OpR) : ON := ⟨o.kind.toNat, o.w.toNat, o.a.toNat, o.b.toNat, o.c.toNat, o.k, o.n.toNat⟩
theorem gvn_congr {f g : Nat → OpR} {n i : Nat} (h : ∀ j, j < n → f j = g j) (hi : i ≤ n) (t : Int) : gvn f i t = gvn g i t := by
  unfold gvn
  by_cases q : 0 ≤ t ∧ t < i
  · rw [h t.toNat (by omega)]
  · rw [decide_eq_false q, Bool.false_and, Bool.false_and]
theorem opErr_congr {f g : Nat → OpR} {n i : Nat} (count : Int) (h : ∀ j, j < n → f j = g j) (hi : i < n) : opErr count n f i = opErr count n g i := by
  unfold opErr takenBad tk
  rw [h i hi, gvn_congr h (by omega), gvn_congr h (by omega), gvn_congr h (by omega)]
theorem scan_congr {f g : Nat → OpR} {n : Nat} (count : Int) (h : ∀ j, j < n → f j = g j) : ∀ m i, i + m = n → scan count n f m i = scan count n g m i
  | 0, i, _ => by
    show endR n f = endR n g
    unfold endR
    by_cases q : n = 0
    · rw [if_pos (.inl q), if_pos (.inl q)]
    · rw [h (n - 1) (by omega)]
  | m + 1, i, hi => by
    show (if opErr count n f i = 0 then scan count n f m (i + 1) else _) = (if opErr count n g i = 0 then scan count n g m (i + 1) else _)
    rw [opErr_congr count h (by omega), scan_congr count h m (i + 1) (by omega)]
theorem check_congr {f g : Nat → OpR} {n : Nat} (count bytes : Int) (h : ∀ j, j < n → f j = g j) : checkF count bytes n f = checkF count bytes n g := by
  unfold checkF
  rw [scan_congr count h n 0 (by omega)]
theorem nn_ok {count : Int} {n : Nat} {f : Nat → OpR} {i : Nat} (hq : opErr count n f i = 0) : f i = rO (fN (f i)) := by
  unfold opErr at hq
  by_cases h1 : eOp (f i) = true
  · rw [if_pos h1] at hq; exact absurd hq (by decide)
  rw [if_neg h1] at hq
  by_cases h2 : fieldBad (flT (f i).kind.toNat) (f i) count = true
  · rw [if_pos h2] at hq; exact absurd hq (by decide)
  rw [if_neg h2] at hq
  by_cases h3 : takenBad (flT (f i).kind.toNat) (f i) f i = true
  · rw [if_pos h3] at hq; exact absurd hq (by decide)
  clear hq
  have h1' : eOp (f i) = false := by simpa using h1
  have h2' : fieldBad (flT (f i).kind.toNat) (f i) count = false := by simpa using h2
  have h3' : takenBad (flT (f i).kind.toNat) (f i) f i = false := by simpa using h3
  clear h1 h2 h3
  have hb := rr_bd (f i).kind
  have hg : ∀ t : Int, gvn f i t = true → 0 ≤ t := fun t q => by
    unfold gvn at q
    simp only [Bool.and_eq_true, decide_eq_true_eq] at q
    exact q.1.1
  unfold eOp at h1'
  simp only [Bool.or_eq_false_iff, Bool.not_eq_false', decide_eq_false_iff_not, isK_iff] at h1'
  obtain ⟨⟨⟨e1, e2⟩, e3⟩, -⟩ := h1'
  generalize hx : f i = o at *
  generalize hy : flT o.kind.toNat = x at *
  unfold fieldBad bd bg at h2'
  unfold takenBad tk at h3'
  obtain ⟨ha, hbb, hc, hk, hn, hgg⟩ := x
  have w0' : 0 ≤ o.w := by omega
  obtain ⟨kd, w, a, b, c, k, nn⟩ := o
  have w0 : 0 ≤ w := w0'
  simp only [Bool.or_eq_false_iff, Bool.and_eq_false_iff, bne_eq_false_iff_eq, Bool.not_eq_false', decide_eq_false_iff_not, decide_eq_true_eq] at h2' h3'
  obtain ⟨⟨⟨⟨⟨⟨fa, fb⟩, fc⟩, -⟩, -⟩, fg⟩, fn⟩ := h2'
  obtain ⟨⟨ta, tb⟩, tc⟩ := h3'
  have a0 : 0 ≤ a := by
    rcases fa with q | q
    · omega
    · rcases ta with r | r
      · rw [q] at r; cases r
      · exact hg a r
  have b0 : 0 ≤ b := by
    rcases fb with q | q
    · omega
    · rcases tb with r | r
      · rw [r, Bool.false_or] at q
        rcases fg with s | s
        · rw [q] at s; cases s
        · omega
      · exact hg b r
  have c0 : 0 ≤ c := by
    rcases fc with q | q
    · omega
    · rcases tc with r | r
      · rw [q] at r; cases r
      · exact hg c r
  have n0 : 0 ≤ nn := fn.1
  have k0 : 0 ≤ kd := by have : 1 ≤ kd := e1; omega
  unfold fN rO
  simp only [Int.toNat_of_nonneg w0, Int.toNat_of_nonneg a0, Int.toNat_of_nonneg b0, Int.toNat_of_nonneg c0, Int.toNat_of_nonneg n0, Int.toNat_of_nonneg k0]
theorem inp {count bytes : Int} {n : Nat} {f : Nat → OpR} (hc : (checkF count bytes n f).1 = 0) (hk : ∀ i, i < n → (f i).k < 4294967296) : ∃ l : List ON, l.length = n ∧ G count bytes l ∧ ∀ i, i < n → f i = rO (hOf l i) := by
  have hz := chk_zero _ _ _ _ hc
  have hs : ∀ i, i < n → opErr count n f i = 0 := fun i hi => by
    unfold checkF at hc
    by_cases h1 : 2048 < n
    · rw [if_pos h1] at hc
      have q' : (5 : Int) = 0 := hc
      exact absurd q' (by decide)
    rw [if_neg h1] at hc
    by_cases h2 : (0 ≤ count ∧ count ≤ 64) ∧ (0 ≤ bytes ∧ bytes ≤ 384)
    · rw [if_pos h2, scan_ok] at hc
      exact hc.1 i (Nat.zero_le _) (by omega)
    · rw [if_neg h2] at hc
      have q' : (4 : Int) = 0 := hc
      exact absurd q' (by decide)
  have hl : ((List.range n).map fun i => fN (f i)).length = n := by simp
  have ho : ∀ i, i < n → hOf ((List.range n).map fun i => fN (f i)) i = fN (f i) := fun i hi => by
    unfold hOf
    rw [List.getD_eq_getElem?_getD, List.getElem?_map, List.getElem?_range hi]
    rfl
  have hf : ∀ i, i < n → f i = rO (hOf ((List.range n).map fun i => fN (f i)) i) := fun i hi => by rw [ho i hi]; exact nn_ok (hs i hi)
  refine ⟨_, hl, ⟨?_, fun i => ?_⟩, hf⟩
  · rw [hl, ← check_congr count bytes hf]; exact hz
  · by_cases hi : i < n
    · rw [ho i hi]; exact hk i hi
    · rw [hOf_out (by rw [hl]; omega)]; exact (by decide : (0 : Nat) < 4294967296)
theorem plain_holds : PlainP mu := by
  refine ⟨good, fun count bytes l g hp => ?_, fun count bytes n f hc hk => inp hc hk⟩
  obtain ⟨f1, f2⟩ := fixed g hp
  obtain ⟨h1, h2, h3⟩ := (G_iff _ _ _).1 g
  exact clean ⟨h2, h3, h1.1.1, f1, f2⟩
end Go.Proofs.Ytmnifblbacgeoab
