import Derived.Test.YtkgbjpdoigdjnabPP
set_option linter.unusedVariables false
set_option linter.unusedSimpArgs false
namespace Go.Proofs.Ytkgbjpdoigdjnab
open Go.RowKit
open Go.Maps
set_option maxRecDepth 100000
structure Me (M X : Type) where
 ldV : Nat → Nat → M → Nat
 ldB : Nat → Nat → M → Bool
 ldX : Nat → Nat → Nat → Nat → M → X
 stM : Nat → Nat → Nat → M → M
 stB : Nat → Nat → M → Bool
 stX : Nat → Nat → Nat → Nat → M → X
 tch : M → Bool
 ex : Nat → Nat → Nat → Nat → X
 flg : (Nat → Nat) → Nat
 fk : ∀ c : Nat → Nat, flg c = vOf ⟨7, if c 8 ≤ 12 then c 8 else 0, 0, 0, 0, 0, 0⟩ (c 9) (c 10) (c 11)
structure Qm (M : Type) where
 c : Nat → Nat
 m : M
 v : Nat → Nat
inductive Rs (M X : Type) where
 | go : Qm M → Rs M X
 | out : (Nat → Nat) → M → X → Rs M X
section
variable {M X : Type}
def opW (E : Me M X) (o : ON) (c : Nat → Nat) (m : M) (a b d : Nat) : Nat := if o.kd = 2 then c o.w else if o.kd = 17 then E.flg c else if o.kd = 9 then E.ldV o.w a m else vOf o a b d
def opL (E : Me M X) (o : ON) (m : M) (a : Nat) : Bool := if o.kd = 9 then E.ldB o.w a m else if o.kd = 10 then E.stB o.w a m else if o.kd = 11 then E.tch m else if o.kd = 12 ∨ o.kd = 13 then decide (a ≠ 0) else enN o.kd
def opX (E : Me M X) (o : ON) (m : M) (a : Nat) : X := if o.kd = 9 then E.ldX o.w o.k o.n a m else if o.kd = 10 then E.stX o.w o.k o.n a m else if o.kd = 13 then E.ex o.w 0 o.k o.n else if o.kd = 14 then E.ex o.w o.b o.k o.n else if o.kd = 16 then E.ex 0 0 a o.n else E.ex 0 0 o.k o.n
def opC (o : ON) (c : Nat → Nat) (a : Nat) : Nat → Nat := if o.kd = 3 then upd c o.w a else c
def opM (E : Me M X) (o : ON) (m : M) (a b : Nat) : M := if o.kd = 10 then E.stM o.w a b m else m
def stp (E : Me M X) (o : ON) (i : Nat) (q : Qm M) : Rs M X :=
 if opL E o q.m (q.v o.a) then .out (opC o q.c (q.v o.a)) (opM E o q.m (q.v o.a) (q.v o.b)) (opX E o q.m (q.v o.a))
 else .go ⟨opC o q.c (q.v o.a), opM E o q.m (q.v o.a) (q.v o.b), upd q.v i (opW E o q.c q.m (q.v o.a) (q.v o.b) (q.v o.c))⟩
def nxt (E : Me M X) (o : ON) (i : Nat) : Rs M X → Rs M X
 | .go q => stp E o i q
 | .out c m x => .out c m x
def exN (E : Me M X) (q : Qm M) (h : Nat → ON) : Nat → Rs M X
 | 0 => .go q
 | i + 1 => nxt E (h i) i (exN E q h i)
def exL (E : Me M X) (q : Qm M) (l : List ON) : Rs M X := exN E q (hOf l) l.length
theorem exN_congr (E : Me M X) (q : Qm M) {h g : Nat → ON} : ∀ n, (∀ j, j < n → h j = g j) → exN E q h n = exN E q g n
 | 0, _ => rfl
 | n + 1, hh => by
  show nxt E (h n) n (exN E q h n) = nxt E (g n) n (exN E q g n)
  rw [hh n (by omega), exN_congr E q n (fun j hj => hh j (by omega))]
theorem exL_app (E : Me M X) (q : Qm M) (l : List ON) (y : ON) : exL E q (l ++ [y]) = nxt E y l.length (exL E q l) := by
 unfold exL
 rw [show (l ++ [y]).length = l.length + 1 by simp]
 show nxt E (hOf (l ++ [y]) l.length) l.length (exN E q (hOf (l ++ [y])) l.length) = _
 rw [hOf_new, exN_congr E q (g := hOf l) l.length (fun j hj => hOf_old hj)]
theorem vOf_eq (o p : ON) (a b d a' b' d' : Nat) (hk : o.kd = p.kd) (hw : o.w = p.w) (hkk : o.k = p.k) (h1 : 1 ≤ o.kd) (h2 : o.kd ≤ 17) (ha : 0 < tkN o.kd → a = a') (hb : 1 < tkN o.kd → b = b') (hd : 2 < tkN o.kd → d = d') : vOf o a b d = vOf p a' b' d' := by
 obtain ⟨kd, w, x1, x2, x3, k, n⟩ := o
 obtain ⟨kd', w', y1, y2, y3, k', n'⟩ := p
 simp only at hk hw hkk h1 h2 ha hb hd
 subst hk hw hkk
 rcases (by omega : kd = 1 ∨ kd = 2 ∨ kd = 3 ∨ kd = 4 ∨ kd = 5 ∨ kd = 6 ∨ kd = 7 ∨ kd = 8 ∨ kd = 9 ∨ kd = 10 ∨ kd = 11 ∨ kd = 12 ∨ kd = 13 ∨ kd = 14 ∨ kd = 15 ∨ kd = 16 ∨ kd = 17) with rfl | rfl | rfl | rfl | rfl | rfl | rfl | rfl | rfl | rfl | rfl | rfl | rfl | rfl | rfl | rfl | rfl <;> simp [tkN, ruT] at ha hb hd <;> simp [vOf, *]
structure Alike (q : Qm M) (v : Nat → Nat) (o p : ON) : Prop where
 kd : p.kd = o.kd
 w : p.w = o.w
 k : p.k = o.k
 n : p.n = o.n
 b : o.kd = 14 → p.b = o.b
 ar : ∀ z, z < tkN o.kd → q.v (arg o z) = v (arg p z)
theorem stp_alike (E : Me M X) (q : Qm M) (v : Nat → Nat) (o p : ON) (h1 : 1 ≤ o.kd) (h2 : o.kd ≤ 17) (A : Alike q v o p) :
  opL E o q.m (q.v o.a) = opL E p q.m (v p.a) ∧ opC o q.c (q.v o.a) = opC p q.c (v p.a) ∧ opM E o q.m (q.v o.a) (q.v o.b) = opM E p q.m (v p.a) (v p.b) ∧ (opL E o q.m (q.v o.a) = true → opX E o q.m (q.v o.a) = opX E p q.m (v p.a)) ∧ (gvN o.kd = true → opW E o q.c q.m (q.v o.a) (q.v o.b) (q.v o.c) = opW E p q.c q.m (v p.a) (v p.b) (v p.c)) := by
 have ha : 0 < tkN o.kd → q.v o.a = v p.a := A.ar 0
 have hb : 1 < tkN o.kd → q.v o.b = v p.b := A.ar 1
 have hd : 2 < tkN o.kd → q.v o.c = v p.c := A.ar 2
 have hb14 := A.b
 have e1 := A.kd
 have e2 := A.w
 have e3 := A.k
 have e4 := A.n
 generalize q.v o.a = x1 at *
 generalize q.v o.b = x2 at *
 generalize q.v o.c = x3 at *
 generalize v p.a = y1 at *
 generalize v p.b = y2 at *
 generalize v p.c = y3 at *
 clear A
 obtain ⟨kd, w, a, b, c, k, n⟩ := o
 obtain ⟨kd', w', a', b', c', k', n'⟩ := p
 simp only at e1 e2 e3 e4 h1 h2 ha hb hd hb14
 subst e1 e2 e3 e4
 rcases (by omega : kd' = 1 ∨ kd' = 2 ∨ kd' = 3 ∨ kd' = 4 ∨ kd' = 5 ∨ kd' = 6 ∨ kd' = 7 ∨ kd' = 8 ∨ kd' = 9 ∨ kd' = 10 ∨ kd' = 11 ∨ kd' = 12 ∨ kd' = 13 ∨ kd' = 14 ∨ kd' = 15 ∨ kd' = 16 ∨ kd' = 17) with rfl | rfl | rfl | rfl | rfl | rfl | rfl | rfl | rfl | rfl | rfl | rfl | rfl | rfl | rfl | rfl | rfl <;> simp [tkN, ruT] at ha hb hd hb14 <;> simp [opL, opC, opM, opX, opW, vOf, *]
end
section
variable {M X : Type}
structure Ro (E : Me M X) (s : SE) (c v : Nat → Nat) : Prop where
 sl : ∀ a u, s.sl a = some u → c a = v u
 nw : ∀ u, s.now = some u → E.flg c = v u
 pv : ∀ j, j < s.l.length → isP (hOf s.l j).kd = true → v j = vOf (hOf s.l j) (v (hOf s.l j).a) (v (hOf s.l j).b) (v (hOf s.l j).c)
structure DoR (E : Me M X) (q0 : Qm M) (s : SE) (o : ON) (c : Nat → Nat) (m : M) (v : Nat → Nat) (r : SE × Option Nat) : Prop where
 out : opL E o m (v o.a) = true → exL E q0 r.1.l = .out (opC o c (v o.a)) (opM E o m (v o.a) (v o.b)) (opX E o m (v o.a))
 go : opL E o m (v o.a) = false → r.1.lft = s.lft ∧ ∃ v', exL E q0 r.1.l = .go ⟨(opC o c (v o.a)), (opM E o m (v o.a) (v o.b)), v'⟩ ∧ (∀ j, j < s.l.length → v' j = v j) ∧ (gvN o.kd = true → ∀ u, r.2 = some u → v' u = (opW E o c m (v o.a) (v o.b) (v o.c))) ∧ Ro E r.1 (opC o c (v o.a)) v'
theorem pv_app {count : Int} {l : List ON} {v : Nat → Nat} (L : LOk count l) (pv : ∀ j, j < l.length → isP (hOf l j).kd = true → v j = vOf (hOf l j) (v (hOf l j).a) (v (hOf l j).b) (v (hOf l j).c)) (y : ON) (hl : Loc count y) (ar : ∀ q, q < tkN y.kd → Val l (arg y q)) (z : Nat) (hz : isP y.kd = true → z = vOf y (v y.a) (v y.b) (v y.c)) :
  ∀ j, j < (l ++ [y]).length → isP (hOf (l ++ [y]) j).kd = true → upd v l.length z j = vOf (hOf (l ++ [y]) j) (upd v l.length z (hOf (l ++ [y]) j).a) (upd v l.length z (hOf (l ++ [y]) j).b) (upd v l.length z (hOf (l ++ [y]) j).c) := by
 intro j hj hp
 have un : ∀ u, u < l.length → upd v l.length z u = v u := fun u hu => if_neg (by omega)
 rw [List.length_append] at hj
 by_cases e : j < l.length
 ·rw [hOf_old e] at hp ⊢
  rw [un j e, pv j e hp]
  have lj := L.loc j e
  exact vOf_eq _ _ _ _ _ _ _ _ rfl rfl rfl lj.k1 lj.k2 (fun q => (un _ (by have : (hOf l j).a < j := (L.ar j e 0 q).1; omega)).symm) (fun q => (un _ (by have : (hOf l j).b < j := (L.ar j e 1 q).1; omega)).symm) (fun q => (un _ (by have : (hOf l j).c < j := (L.ar j e 2 q).1; omega)).symm)
 ·obtain rfl : j = l.length := by simp at hj; omega
  rw [hOf_new] at hp ⊢
  rw [show upd v l.length z l.length = z from if_pos rfl]
  exact (hz hp).trans <| vOf_eq _ _ _ _ _ _ _ _ rfl rfl rfl hl.k1 hl.k2 (fun q => (un _ (ar 0 q).1).symm) (fun q => (un _ (ar 1 q).1).symm) (fun q => (un _ (ar 2 q).1).symm)
theorem opW_p (E : Me M X) (o : ON) (c : Nat → Nat) (m : M) (a b d : Nat) (h : isP o.kd = true) : opW E o c m a b d = vOf o a b d ∧ opL E o m a = false ∧ opC o c a = c ∧ opM E o m a b = m := by
 unfold opW opL opC opM
 rcases isP_k h with k | k | k | k | k | k <;> rw [k] <;> exact ⟨rfl, rfl, rfl, rfl⟩
theorem lay_R (E : Me M X) (q0 : Qm M) {count : Int} (s s' : SE) (o : ON) (c : Nat → Nat) (m : M) (v : Nat → Nat) (L : LOk count s.l) (P : POk count s o) (hx : exL E q0 s.l = .go ⟨c, m, v⟩) (R : Ro E s c v) (e1 : s'.l = s.l ++ [o]) (e2 : s'.lft = s.lft)
  (hs : ∀ a u, s'.sl a = some u → (opC o c (v o.a)) a = upd v s.l.length (opW E o c m (v o.a) (v o.b) (v o.c)) u) (hn : ∀ u, s'.now = some u → E.flg (opC o c (v o.a)) = upd v s.l.length (opW E o c m (v o.a) (v o.b) (v o.c)) u) : DoR E q0 s o c m v (s', some s.l.length) := by
 have ex : exL E q0 s'.l = stp E o s.l.length ⟨c, m, v⟩ := by rw [e1, exL_app, hx]; rfl
 refine ⟨fun q => ?_, fun q => ⟨e2, upd v s.l.length (opW E o c m (v o.a) (v o.b) (v o.c)), ?_, fun j hj => if_neg (by omega), fun _ u hu => ?_, ⟨hs, hn, ?_⟩⟩⟩
 ·show exL E q0 s'.l = _
  rw [ex]; unfold stp; rw [if_pos q]
 ·show exL E q0 s'.l = _
  rw [ex]; unfold stp; rw [if_neg (by rw [q]; decide)]
 ·cases hu; exact if_pos rfl
 ·show ∀ j, j < s'.l.length → isP (hOf s'.l j).kd = true → _
  rw [e1]
  exact pv_app L R.pv o P.loc P.ar _ fun hp => (opW_p E o c m _ _ _ hp).1
theorem new_R {v : Nat → Nat} {n u z : Nat} (h : u < n) : upd v n z u = v u := if_neg (by omega)
theorem cst_v {E : Me M X} {s : SE} {c v : Nat → Nat} (R : Ro E s c v) {u : Nat} (hu : u < s.l.length) (h : isC s.l u = true) : v u = (s.l.getD u onD).k := by
 have hk : (hOf s.l u).kd = 1 := of_decide_eq_true h
 rw [R.pv u hu (by rw [hk]; rfl)]
 unfold vOf
 rw [if_pos hk]; rfl
theorem ofC_at {l : List ON} {o : ON} (h : ofC l o = true) : ∀ q, q < tkN o.kd → isC l (arg o q) = true := fun q hq => by
 cases hc : isC l (arg o q) with
 | true => rfl
 | false =>
  unfold ofC at h
  rw [ofCq_no hc _ hq, Bool.and_false] at h
  cases h
theorem rec_v {count : Int} {E : Me M X} {s : SE} {c v : Nat → Nat} (R : Ro E s c v) {o : ON} (P : POk count s o) : vOf (recO s o) (v (recO s o).a) (v (recO s o).b) (v (recO s o).c) = vOf o (v o.a) (v o.b) (v o.c) := by
 unfold recO
 split
 ·rename_i h
  have ha := ofC_at h
  show vOf o (s.l.getD o.a onD).k (s.l.getD o.b onD).k (s.l.getD o.c onD).k = _
  exact vOf_eq _ _ _ _ _ _ _ _ rfl rfl rfl P.loc.k1 P.loc.k2 (fun q => (cst_v R (P.ar 0 q).1 (ha 0 q)).symm) (fun q => (cst_v R (P.ar 1 q).1 (ha 1 q)).symm) (fun q => (cst_v R (P.ar 2 q).1 (ha 2 q)).symm)
 ·rfl
theorem rec_R (E : Me M X) (q0 : Qm M) {count : Int} (s : SE) (o : ON) (c : Nat → Nat) (m : M) (v : Nat → Nat) (hc : 0 ≤ count) (L : LOk count s.l) (P : POk count s o) (hx : exL E q0 s.l = .go ⟨c, m, v⟩) (R : Ro E s c v) (hp : isP o.kd = true) : DoR E q0 s o c m v (recS s o) := by
 obtain ⟨w1, w2, w3, w4⟩ := opW_p E o c m (v o.a) (v o.b) (v o.c) hp
 refine ⟨fun q => by (rw [w2] at q; cases q), fun _ => ?_⟩
 rw [w1, w3, w4]
 have hrv := rec_v R P
 have D := dr_rec count s o P hp hc
 unfold recS at D ⊢
 by_cases h6 : o.kd = 6 ∧ isC s.l o.a = true
 ·rw [if_pos h6]
  refine ⟨rfl, v, hx, fun _ _ => rfl, fun _ u hu => ?_, R⟩
  have e : chO s.l o = u := by cases hu; rfl
  rw [← e]
  have h0 : 0 < tkN o.kd := by rw [h6.1]; decide
  have hv := cst_v R (P.ar 0 h0).1 h6.2
  have hv' : v o.a = (s.l.getD o.a onD).k := hv
  have e6 : vOf o (v o.a) (v o.b) (v o.c) = if v o.a = 0 then v o.c else v o.b := by unfold vOf; rw [h6.1]; rfl
  rw [e6, hv']
  unfold chO
  split <;> rfl
 ·rw [if_neg h6] at D ⊢
  cases hf : fnd s.l (recO s o) with
  | some j =>
   refine ⟨rfl, v, hx, fun _ _ => rfl, fun _ u hu => ?_, R⟩
   have e : j = u := by cases hu; rfl
   obtain ⟨hj, hj2⟩ := fnd_some hf
   have hj3 : hOf s.l j = recO s o := hj2
   have := R.pv j hj (by
    rw [hj3]
    unfold recO
    split
    ·rfl
    ·exact hp)
   rw [hj3, hrv] at this
   rw [← e]; exact this
  | none =>
   rw [hf] at D
   have rp : isP (recO s o).kd = true := by
    unfold recO
    split
    ·rfl
    ·exact hp
   rcases D.lay with ⟨e1, -, -⟩ | ⟨y, y1, y2, y3, -⟩
   ·have e1' : (s.l ++ [recO s o]) = s.l := e1
    have := congrArg List.length e1'
    simp at this
   ·have y1' : s.l ++ [recO s o] = s.l ++ [y] := y1
    have ey : recO s o = y := by simpa using y1'
    obtain ⟨r1, r2, r3, r4⟩ := opW_p E (recO s o) c m (v (recO s o).a) (v (recO s o).b) (v (recO s o).c) rp
    refine ⟨rfl, upd v s.l.length (vOf o (v o.a) (v o.b) (v o.c)), ?_, fun j hj => if_neg (by omega), fun _ u hu => ?_, ⟨fun a u q => ?_, fun u q => ?_, ?_⟩⟩
    ·show exL E q0 (s.l ++ [recO s o]) = _
     rw [exL_app, hx]
     show stp E (recO s o) s.l.length ⟨c, m, v⟩ = _
     unfold stp
     rw [if_neg (by rw [r2]; decide), r1, r3, r4, hrv]
    ·have e : s.l.length = u := by cases hu; rfl
     rw [← e]; exact if_pos rfl
    ·rw [new_R (P.sl a u q).1]; exact R.sl a u q
    ·rw [new_R (P.nw u q).1]; exact R.nw u q
    ·exact pv_app L R.pv (recO s o) (by rw [ey]; exact y2) (by rw [ey]; exact y3) _ fun _ => hrv.symm
end
section
variable {M X : Type}
theorem flg_eq (E : Me M X) {c d : Nat → Nat} (h : ∀ i, 8 ≤ i → c i = d i) : E.flg c = E.flg d := by rw [E.fk, E.fk, h 8 (by omega), h 9 (by omega), h 10 (by omega), h 11 (by omega)]
theorem get_R (E : Me M X) (q0 : Qm M) {count : Int} (s : SE) (o : ON) (c : Nat → Nat) (m : M) (v : Nat → Nat) (hc : 0 ≤ count) (L : LOk count s.l) (P : POk count s o) (hx : exL E q0 s.l = .go ⟨c, m, v⟩) (R : Ro E s c v) (hk : o.kd = 2) : DoR E q0 s o c m v (getS s o) := by
 have eC : (opC o c (v o.a)) = c := by unfold opC; rw [hk]; rfl
 have eL : opL E o m (v o.a) = false := by unfold opL; rw [hk]; rfl
 have eM : (opM E o m (v o.a) (v o.b)) = m := by unfold opM; rw [hk]; rfl
 have eW : (opW E o c m (v o.a) (v o.b) (v o.c)) = c o.w := by unfold opW; rw [hk]; rfl
 unfold getS
 cases hs : s.sl o.w with
 | some u =>
  refine ⟨fun q => by (rw [eL] at q; cases q), fun _ => ⟨rfl, v, by rw [eC, eM]; exact hx, fun _ _ => rfl, fun _ z hz => ?_, by rw [eC]; exact R⟩⟩
  have e : u = z := by cases hz; rfl
  rw [eW, ← e]; exact (R.sl _ _ hs).symm
 | none =>
  refine lay_R E q0 s _ o c m v L P hx R rfl rfl (fun a u q => ?_) (fun u q => ?_)
  ·rw [eC, eW]
   have q' : upd s.sl o.w (some s.l.length) a = some u := q
   by_cases e : a = o.w
   ·have : some s.l.length = some u := by rw [← q']; exact (if_pos e).symm
    cases this
    rw [e]; exact (if_pos rfl).symm
   ·have : s.sl a = some u := by rw [← q']; exact (if_neg e).symm
    rw [new_R (P.sl a u this).1]; exact R.sl a u this
  ·rw [eC, new_R (P.nw u q).1]; exact R.nw u q
theorem put_R (E : Me M X) (q0 : Qm M) {count : Int} (s : SE) (o : ON) (c : Nat → Nat) (m : M) (v : Nat → Nat) (hc : 0 ≤ count) (L : LOk count s.l) (P : POk count s o) (hx : exL E q0 s.l = .go ⟨c, m, v⟩) (R : Ro E s c v) (hk : o.kd = 3) : DoR E q0 s o c m v (putS s o) := by
 have eC : (opC o c (v o.a)) = upd c o.w (v o.a) := by unfold opC; rw [hk]; rfl
 have eL : opL E o m (v o.a) = false := by unfold opL; rw [hk]; rfl
 have eM : (opM E o m (v o.a) (v o.b)) = m := by unfold opM; rw [hk]; rfl
 have la : o.a < s.l.length := (P.ar 0 (by rw [hk]; decide)).1
 unfold putS
 by_cases hs : s.sl o.w = some o.a
 ·rw [if_pos hs]
  have e : upd c o.w (v o.a) = c := funext fun a => by
   unfold upd
   by_cases e : a = o.w
   ·rw [if_pos e, e]; exact (R.sl _ _ hs).symm
   ·rw [if_neg e]
  refine ⟨fun q => by (rw [eL] at q; cases q), fun _ => ⟨rfl, v, by rw [eC, eM, e]; exact hx, fun _ _ => rfl, fun q => by (rw [hk] at q; cases q), by rw [eC, e]; exact R⟩⟩
 ·rw [if_neg hs]
  refine lay_R E q0 s _ o c m v L P hx R rfl rfl (fun a u q => ?_) (fun u q => ?_)
  ·rw [eC]
   have q' : upd s.sl o.w (some o.a) a = some u := q
   by_cases e : a = o.w
   ·have : some o.a = some u := by rw [← q']; exact (if_pos e).symm
    cases this
    rw [new_R la]; exact if_pos e
   ·have : s.sl a = some u := by rw [← q']; exact (if_neg e).symm
    rw [new_R (P.sl a u this).1]
    exact (if_neg e).trans (R.sl a u this)
  ·rw [eC]
   have q' : (if 8 ≤ o.w then none else s.now) = some u := q
   by_cases e : 8 ≤ o.w
   ·rw [if_pos e] at q'; cases q'
   ·rw [if_neg e] at q'
    rw [new_R (P.nw u q').1, ← R.nw u q']
    exact flg_eq E fun i hi => if_neg (by omega)
theorem keep_R (E : Me M X) (q0 : Qm M) {count : Int} (s : SE) (o : ON) (c : Nat → Nat) (m : M) (v : Nat → Nat) (hc : 0 ≤ count) (L : LOk count s.l) (P : POk count s o) (hx : exL E q0 s.l = .go ⟨c, m, v⟩) (R : Ro E s c v) (hC : (opC o c (v o.a)) = c) : DoR E q0 s o c m v ({ s with l := s.l ++ [o] }, some s.l.length) :=
 lay_R E q0 s _ o c m v L P hx R rfl rfl (fun a u q => by rw [hC, new_R (P.sl a u q).1]; exact R.sl a u q) (fun u q => by rw [hC, new_R (P.nw u q).1]; exact R.nw u q)
theorem ask_R (E : Me M X) (q0 : Qm M) {count : Int} (s : SE) (o : ON) (c : Nat → Nat) (m : M) (v : Nat → Nat) (hc : 0 ≤ count) (L : LOk count s.l) (P : POk count s o) (hx : exL E q0 s.l = .go ⟨c, m, v⟩) (R : Ro E s c v) (hk : o.kd = 12 ∨ o.kd = 13) : DoR E q0 s o c m v (askS s o) := by
 have eC : (opC o c (v o.a)) = c := by unfold opC; rcases hk with k | k <;> (rw [k]; rfl)
 have eL : opL E o m (v o.a) = decide (v o.a ≠ 0) := by unfold opL; rcases hk with k | k <;> (rw [k]; rfl)
 have eM : (opM E o m (v o.a) (v o.b)) = m := by unfold opM; rcases hk with k | k <;> (rw [k]; rfl)
 have la : o.a < s.l.length := (P.ar 0 (by rcases hk with k | k <;> (rw [k]; decide))).1
 unfold askS
 cases hb : isC s.l o.a with
 | false =>
  rw [if_pos rfl]
  exact keep_R E q0 s o c m v hc L P hx R eC
 | true =>
  rw [if_neg (by decide)]
  have hv := cst_v R la hb
  by_cases h0 : (s.l.getD o.a onD).k = 0
  ·rw [if_pos h0]
   have eL' : opL E o m (v o.a) = false := by rw [eL, hv, h0]; rfl
   exact ⟨fun q => by (rw [eL'] at q; cases q), fun _ => ⟨rfl, v, by rw [eC, eM]; exact hx, fun _ _ => rfl, fun q => by (rcases hk with k | k <;> (rw [k] at q; cases q)), by rw [eC]; exact R⟩⟩
  ·rw [if_neg h0]
   have eL' : opL E o m (v o.a) = true := by rw [eL, hv]; exact decide_eq_true h0
   refine ⟨fun _ => ?_, fun q => by (rw [eL'] at q; cases q)⟩
   show exL E q0 (s.l ++ [endO o]) = _
   rw [exL_app, hx, eC, eM]
   show stp E (endO o) s.l.length ⟨c, m, v⟩ = _
   unfold stp opL opC opM opX endO
   rcases hk with k | k <;> rw [k] <;> rfl
theorem tel_R (E : Me M X) (q0 : Qm M) {count : Int} (s : SE) (o : ON) (c : Nat → Nat) (m : M) (v : Nat → Nat) (hc : 0 ≤ count) (L : LOk count s.l) (P : POk count s o) (hx : exL E q0 s.l = .go ⟨c, m, v⟩) (R : Ro E s c v) (hk : o.kd = 17) : DoR E q0 s o c m v (telS s o) := by
 have eC : (opC o c (v o.a)) = c := by unfold opC; rw [hk]; rfl
 have eL : opL E o m (v o.a) = false := by unfold opL; rw [hk]; rfl
 have eM : (opM E o m (v o.a) (v o.b)) = m := by unfold opM; rw [hk]; rfl
 have eW : (opW E o c m (v o.a) (v o.b) (v o.c)) = E.flg c := by unfold opW; rw [hk]; rfl
 unfold telS
 cases hs : s.now with
 | some u =>
  refine ⟨fun q => by (rw [eL] at q; cases q), fun _ => ⟨rfl, v, by rw [eC, eM]; exact hx, fun _ _ => rfl, fun _ z hz => ?_, by rw [eC]; exact R⟩⟩
  have e : u = z := by cases hz; rfl
  rw [eW, ← e]; exact (R.nw _ hs).symm
 | none =>
  show DoR E q0 s o c m v (if knB s = true then recS s (mdO s) else ({ s with l := s.l ++ [o], now := some s.l.length }, some s.l.length))
  by_cases hb : knB s = true
  ·rw [if_pos hb]
   have Pm := md_pok count s o P hc hb
   have D := rec_R E q0 s (mdO s) c m v hc L Pm hx R rfl
   obtain ⟨w1, w2, w3, w4⟩ := opW_p E (mdO s) c m (v (mdO s).a) (v (mdO s).b) (v (mdO s).c) rfl
   obtain ⟨d1, v', d2, d3, d4, d5⟩ := D.go w2
   rw [w3, w4] at d2
   rw [w3] at d5
   rw [w1] at d4
   refine ⟨fun q => by (rw [eL] at q; cases q), fun _ => ⟨d1, v', by rw [eC, eM]; exact d2, d3, fun _ u hu => ?_, by rw [eC]; exact d5⟩⟩
   rw [eW, d4 rfl u hu, E.fk]
   obtain ⟨v8, v9, v10, v11, h8, h9, h10, h11⟩ := kn_all hb
   have hC8 : isC s.l v8 = true := by
    unfold knB at hb
    rw [h8, h9, h10, h11] at hb
    simpa using hb
   have c8 : c 8 = (s.l.getD v8 onD).k := (R.sl _ _ h8).trans (cst_v R (P.sl _ _ h8).1 hC8)
   have em : mdO s = ⟨7, if (s.l.getD v8 onD).k ≤ 12 then (s.l.getD v8 onD).k else 0, v9, v10, v11, 0, 0⟩ := by unfold mdO; rw [h8, h9, h10, h11]; rfl
   rw [em, c8, R.sl _ _ h9, R.sl _ _ h10, R.sl _ _ h11]
   rfl
  ·rw [if_neg hb]
   refine lay_R E q0 s _ o c m v L P hx R rfl rfl (fun a u q => by rw [eC, new_R (P.sl a u q).1]; exact R.sl a u q) (fun u q => ?_)
   have q' : some s.l.length = some u := q
   cases q'
   rw [eC, eW]; exact (if_pos rfl).symm
theorem do_R (E : Me M X) (q0 : Qm M) {count : Int} (s : SE) (o : ON) (c : Nat → Nat) (m : M) (v : Nat → Nat) (hc : 0 ≤ count) (L : LOk count s.l) (P : POk count s o) (hx : exL E q0 s.l = .go ⟨c, m, v⟩) (R : Ro E s c v) : DoR E q0 s o c m v (doS s o) := by
 unfold doS
 split
 ·rename_i q; exact rec_R E q0 s o c m v hc L P hx R q
 split
 ·rename_i q; exact get_R E q0 s o c m v hc L P hx R q
 split
 ·rename_i q; exact put_R E q0 s o c m v hc L P hx R q
 split
 ·rename_i q; exact ask_R E q0 s o c m v hc L P hx R q
 split
 ·rename_i q; exact tel_R E q0 s o c m v hc L P hx R q
 ·rename_i q3 _ _; exact keep_R E q0 s o c m v hc L P hx R (if_neg (by assumption))
def Sm (E : Me M X) (q0 : Qm M) (h : Nat → ON) (i : Nat) (x : TS) : Prop :=
 (∀ c m y, exN E q0 h i = .out c m y → exL E q0 x.s.l = .out c m y) ∧
 ∀ q, exN E q0 h i = .go q → x.s.lft = false ∧ ∃ v, exL E q0 x.s.l = .go ⟨q.c, q.m, v⟩ ∧ Ro E x.s q.c v ∧ ∀ p u, p < i → gvN (h p).kd = true → x.t p = some u → q.v p = v u
theorem sm_step {count : Int} (E : Me M X) (q0 : Qm M) {h : Nat → ON} {n i : Nat} (B : Blk count h n) (ks : ∀ i, (h i).k < 4294967296) (hc : 0 ≤ count) (hi : i < n) (S : Sm E q0 h i (runS h i)) : Sm E q0 h (i + 1) (runS h (i + 1)) := by
 have I := inv_all B ks hc i (by omega)
 obtain ⟨S1, S2⟩ := S
 cases hq : exN E q0 h i with
 | out c m y =>
  have e : exN E q0 h (i + 1) = .out c m y := by show nxt E (h i) i (exN E q0 h i) = _; rw [hq]; rfl
  have hx := S1 c m y hq
  refine ⟨fun c' m' y' he => ?_, fun q he => by (rw [e] at he; cases he)⟩
  rw [e] at he
  cases he
  cases hl : (runS h i).s.lft with
  | true =>
   have e2 : runS h (i + 1) = runS h i := by show (if (runS h i).s.lft then _ else _) = _; rw [if_pos hl]
   rw [e2]; exact hx
  | false =>
   have P := inv_pok B ks I hi hl
   have D := dr_do count _ _ P hc
   rw [runS_next h i hl]
   show exL E q0 (doS (runS h i).s (ren (h i) (runS h i).t)).1.l = _
   rcases D.lay with ⟨e1, -, -⟩ | ⟨y, y1, -⟩
   ·rw [e1]; exact hx
   ·rw [y1, exL_app, hx]; rfl
 | go q =>
  obtain ⟨hl, v, hx, R, tv⟩ := S2 q hq
  have P := inv_pok B ks I hi hl
  have D := do_R E q0 _ _ q.c q.m v hc I.lok P hx R
  have DD := dr_do count _ _ P hc
  have en : exN E q0 h (i + 1) = stp E (h i) i q := by show nxt E (h i) i (exN E q0 h i) = _; rw [hq]; rfl
  have hl1 := (B.loc i hi).k1
  have hl2 := (B.loc i hi).k2
  have A : Alike q v (h i) (ren (h i) (runS h i).t) := by
   refine ⟨rfl, rfl, rfl, rfl, fun e => ?_, fun z hz => ?_⟩
   ·show (if 1 < tkN (h i).kd then _ else (h i).b) = _
    rw [if_neg (by rw [e]; decide)]
   ·obtain ⟨a1, a2⟩ := B.ar i hi z hz
    obtain ⟨u, hu, -⟩ := I.tt hl _ a1 a2
    rw [ren_arg _ _ _ hz, hu]
    exact tv _ u a1 a2 hu
  obtain ⟨z1, z2, z3, z4, z5⟩ := stp_alike E q v _ _ hl1 hl2 A
  rw [runS_next h i hl]
  generalize hx2 : runS h i = x at *
  show Sm E q0 h (i + 1) ⟨(doS x.s (ren (h i) x.t)).1, upd x.t i (doS x.s (ren (h i) x.t)).2⟩
  generalize hr : doS x.s (ren (h i) x.t) = r at *
  generalize ho : ren (h i) x.t = o at *
  have okd : o.kd = (h i).kd := A.kd
  refine ⟨fun c m y he => ?_, fun q' he => ?_⟩
  ·rw [en] at he
   unfold stp at he
   by_cases hL : opL E (h i) q.m (q.v (h i).a) = true
   ·rw [if_pos hL] at he
    have he' := he
    rw [z2, z3, z4 hL] at he'
    rw [← he']
    exact D.out (z1 ▸ hL)
   ·rw [if_neg hL] at he; cases he
  ·rw [en] at he
   unfold stp at he
   by_cases hL : opL E (h i) q.m (q.v (h i).a) = true
   ·rw [if_pos hL] at he; cases he
   ·rw [if_neg hL] at he
    have hL' : opL E o q.m (v o.a) = false := by rw [← z1]; simpa using hL
    obtain ⟨d1, v', d2, d3, d4, d5⟩ := D.go hL'
    cases he
    refine ⟨d1.trans hl, v', ?_, ?_, fun p u hp hg hu => ?_⟩
    ·show exL E q0 r.1.l = .go ⟨opC (h i) q.c (q.v (h i).a), opM E (h i) q.m (q.v (h i).a) (q.v (h i).b), v'⟩
     rw [z2, z3]; exact d2
    ·show Ro E r.1 (opC (h i) q.c (q.v (h i).a)) v'
     rw [z2]; exact d5
    ·have hu' : upd x.t i r.2 p = some u := hu
     show upd q.v i (opW E (h i) q.c q.m (q.v (h i).a) (q.v (h i).b) (q.v (h i).c)) p = v' u
     unfold upd at hu' ⊢
     by_cases e : p = i
     ·rw [if_pos e] at hu' ⊢
      rw [e] at hg
      rw [z5 hg]
      exact (d4 (by rw [okd]; exact hg) u hu').symm
     ·rw [if_neg e] at hu' ⊢
      obtain ⟨u', hu2, hV⟩ := I.tt hl p (by omega) hg
      rw [hu'] at hu2
      cases hu2
      rw [d3 u hV.1]
      exact tv p u (by omega) hg hu'
theorem sm_all {count : Int} (E : Me M X) (q0 : Qm M) {h : Nat → ON} {n : Nat} (B : Blk count h n) (ks : ∀ i, (h i).k < 4294967296) (hc : 0 ≤ count) : ∀ i, i ≤ n → Sm E q0 h i (runS h i)
 | 0, _ => by
  refine ⟨fun c m y he => (by cases he), fun q he => ?_⟩
  cases he
  refine ⟨rfl, q0.v, rfl, ⟨fun a u q => ?_, fun u q => ?_, fun j hj => absurd hj (Nat.not_lt_zero _)⟩, fun p u hp => absurd hp (Nat.not_lt_zero _)⟩
  ·have q' : (none : Option Nat) = some u := q
   cases q'
  ·have q' : (none : Option Nat) = some u := q
   cases q'
 | i + 1, hi => sm_step E q0 B ks hc (by omega) (sm_all E q0 B ks hc i (by omega))
theorem set_same {count bytes : Int} {l : List ON} (g : G count bytes l) (E : Me M X) (q0 : Qm M) {c : Nat → Nat} {m : M} {y : X} (h : exL E q0 l = .out c m y) : exL E q0 (setL l) = .out c m y := by
 obtain ⟨h1, h2, h3⟩ := (G_iff _ _ _).1 g
 exact (sm_all E q0 h2 h3 h1.1.1 l.length (Nat.le_refl _)).1 c m y h
end
end Go.Proofs.Ytkgbjpdoigdjnab
