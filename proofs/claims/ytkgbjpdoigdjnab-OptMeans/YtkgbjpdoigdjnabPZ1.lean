import Derived.Test.YtkgbjpdoigdjnabPX
import Derived.Test.YtkgbjpdoigdjnabWEE
set_option linter.unusedVariables false
set_option linter.unusedSimpArgs false
namespace Go.Proofs.Ytkgbjpdoigdjnab
open Go.RowKit
open Go.Maps
set_option maxRecDepth 100000
section
variable {M X : Type}
theorem quiet (E : Me M X) (o : ON) (m : M) (a b : Nat) (c : Nat → Nat) (h1 : 1 ≤ o.kd) (h2 : o.kd ≤ 17) : ((ruT o.kd).leaves = false → opL E o m a = false ∧ opM E o m a b = m) ∧ (o.kd ≠ 3 → opC o c a = c) ∧ ((ruT o.kd).leaves = true → o.kd ≠ 3) ∧ (gvN o.kd = true → o.kd ≠ 3) := by
 obtain ⟨kd, w, x1, x2, x3, k, n⟩ := o
 simp only at h1 h2
 refine ⟨?_, fun q => if_neg q, ?_, ?_⟩
 all_goals (rcases (by omega : kd = 1 ∨ kd = 2 ∨ kd = 3 ∨ kd = 4 ∨ kd = 5 ∨ kd = 6 ∨ kd = 7 ∨ kd = 8 ∨ kd = 9 ∨ kd = 10 ∨ kd = 11 ∨ kd = 12 ∨ kd = 13 ∨ kd = 14 ∨ kd = 15 ∨ kd = 16 ∨ kd = 17) with rfl | rfl | rfl | rfl | rfl | rfl | rfl | rfl | rfl | rfl | rfl | rfl | rfl | rfl | rfl | rfl | rfl <;> simp [ruT, opL, opM, gvN, rrT, enN])
theorem opW_c (E : Me M X) (o : ON) (c c' : Nat → Nat) (m : M) (a b d : Nat) (h2 : o.kd = 2 → c o.w = c' o.w) (h17 : o.kd = 17 → ∀ w, 8 ≤ w → c w = c' w) : opW E o c m a b d = opW E o c' m a b d := by
 unfold opW
 by_cases k2 : o.kd = 2
 ·rw [if_pos k2, if_pos k2, h2 k2]
 rw [if_neg k2, if_neg k2]
 by_cases k17 : o.kd = 17
 ·rw [if_pos k17, if_pos k17, flg_eq E (h17 k17)]
 rw [if_neg k17, if_neg k17]
structure Kr (h : Nat → ON) (n i : Nat) (x : KS) (q : Qm M) (c v : Nat → Nat) : Prop where
 c : ∀ w, (neS h n (n - i)).d.sn w = true → q.c w = c w
 t : ∀ p u, p < i → syF h n p = true → gvN (h p).kd = true → x.t p = some u → q.v p = v u
def Kd (E : Me M X) (q0 : Qm M) (h : Nat → ON) (n i : Nat) (x : KS) : Prop :=
 (∀ c m y, exN E q0 h i = .out c m y → exL E q0 x.l = .out c m y) ∧
 ∀ q, exN E q0 h i = .go q → ∃ c v, exL E q0 x.l = .go ⟨c, q.m, v⟩ ∧ Kr h n i x q c v
theorem ne_next (h : Nat → ON) (n i : Nat) (hi : i < n) : (neS h n (n - i)).d = if syF h n i = true then askN (neS h n (n - (i + 1))).d (h i) else (neS h n (n - (i + 1))).d := by
 rw [sy_at h n hi, show n - i = (n - 1 - i) + 1 by omega, show n - (i + 1) = n - 1 - i by omega]
 show (if staB (neS h n (n - 1 - i)).d (n - 1 - (n - 1 - i)) (h (n - 1 - (n - 1 - i))) = true then askN (neS h n (n - 1 - i)).d (h (n - 1 - (n - 1 - i))) else (neS h n (n - 1 - i)).d : ND) = _
 rw [show n - 1 - (n - 1 - i) = i by omega]
theorem kd_step {count : Int} (E : Me M X) (q0 : Qm M) {h : Nat → ON} {n i : Nat} (B : Blk count h n) (ks : ∀ i, (h i).k < 4294967296) (hi : i < n) (S : Kd E q0 h n i (keS h (syF h n) i)) : Kd E q0 h n (i + 1) (keS h (syF h n) (i + 1)) := by
 have I := kinv_all B ks (fun i q hi hs hq => sy_arg B hi hs hq) (sy_last B) i (by omega)
 obtain ⟨S1, S2⟩ := S
 have L := B.loc i hi
 have hd := ne_next h n i hi
 cases hs : syF h n i with
 | false =>
  have e : keS h (syF h n) (i + 1) = keS h (syF h n) i := by show (if syF h n i then _ else _ : KS) = _; rw [if_neg (by rw [hs]; decide)]
  rw [e]
  rw [hs, if_neg (by decide)] at hd
  have hst := sy_at h n hi
  rw [hs] at hst
  unfold staB at hst
  have hv : (ruT (h i).kd).leaves = false := by
   cases q : (ruT (h i).kd).leaves with
   | false => rfl
   | true => rw [if_pos q] at hst; cases hst
  rw [if_neg (by rw [hv]; decide)] at hst
  refine ⟨fun c m y he => ?_, fun q' he => ?_⟩
  ·cases hq : exN E q0 h i with
   | out c' m' y' =>
    have e2 : exN E q0 h (i + 1) = .out c' m' y' := by show nxt E (h i) i (exN E q0 h i) = _; rw [hq]; rfl
    rw [e2] at he
    rw [S1 c' m' y' hq]; exact he
   | go q =>
    have e2 : exN E q0 h (i + 1) = stp E (h i) i q := by show nxt E (h i) i (exN E q0 h i) = _; rw [hq]; rfl
    rw [e2] at he
    unfold stp at he
    rw [if_neg (by rw [((quiet E (h i) q.m (q.v (h i).a) (q.v (h i).b) q.c L.k1 L.k2).1 hv).1]; decide)] at he
    cases he
  ·cases hq : exN E q0 h i with
   | out c' m' y' =>
    have e2 : exN E q0 h (i + 1) = .out c' m' y' := by show nxt E (h i) i (exN E q0 h i) = _; rw [hq]; rfl
    rw [e2] at he; cases he
   | go q =>
    have e2 : exN E q0 h (i + 1) = stp E (h i) i q := by show nxt E (h i) i (exN E q0 h i) = _; rw [hq]; rfl
    rw [e2] at he
    obtain ⟨Q1, Q2, Q3, Q4⟩ := quiet E (h i) q.m (q.v (h i).a) (q.v (h i).b) q.c L.k1 L.k2
    unfold stp at he
    rw [if_neg (by rw [(Q1 hv).1]; decide), (Q1 hv).2] at he
    cases he
    obtain ⟨c, v, hx, R⟩ := S2 q hq
    refine ⟨c, v, hx, ⟨fun w hw => ?_, fun p u hp hsp hg hu => ?_⟩⟩
    ·show opC (h i) q.c (q.v (h i).a) w = c w
     rw [← hd] at hw
     by_cases k3 : (h i).kd = 3
     ·rw [if_pos k3] at hst
      have ne : ¬ w = (h i).w := fun e => by
       rw [e, hd, show n - (i + 1) = n - 1 - i by omega] at hw
       rw [hw] at hst; cases hst
      unfold opC
      rw [if_pos k3]
      exact (if_neg ne).trans (R.c w hw)
     ·rw [Q2 k3]; exact R.c w hw
    ·have pi : p ≠ i := fun e => by rw [e, hs] at hsp; cases hsp
     exact (if_neg pi).trans (R.t p u (by omega) hsp hg hu)
 | true =>
  rw [hs, if_pos rfl] at hd
  generalize hx0 : keS h (syF h n) i = x at *
  have e : keS h (syF h n) (i + 1) = ⟨x.l ++ [ren (h i) (upd x.t i (some x.l.length))], upd x.t i (some x.l.length)⟩ := by show (if syF h n i then _ else _ : KS) = _; rw [if_pos hs, hx0]
  rw [e]
  cases hq : exN E q0 h i with
  | out c' m' y' =>
   have e2 : exN E q0 h (i + 1) = .out c' m' y' := by show nxt E (h i) i (exN E q0 h i) = _; rw [hq]; rfl
   refine ⟨fun c m y he => ?_, fun q he => by (rw [e2] at he; cases he)⟩
   rw [e2] at he
   show exL E q0 (x.l ++ [_]) = _
   rw [exL_app, S1 c' m' y' hq]; exact he
  | go q =>
   have e2 : exN E q0 h (i + 1) = stp E (h i) i q := by show nxt E (h i) i (exN E q0 h i) = _; rw [hq]; rfl
   obtain ⟨c, v, hx, R⟩ := S2 q hq
   have A : Alike q v (h i) (ren (h i) (upd x.t i (some x.l.length))) := by
    refine ⟨rfl, rfl, rfl, rfl, fun e => ?_, fun z hz => ?_⟩
    ·show (if 1 < tkN (h i).kd then _ else (h i).b) = _
     rw [if_neg (by rw [e]; decide)]
    ·obtain ⟨a1, a2⟩ := B.ar i hi z hz
     have hsa := sy_arg B hi hs hz
     obtain ⟨u, hu, -⟩ := I.tt _ a1 hsa
     rw [ren_arg _ _ _ hz]
     unfold upd
     rw [if_neg (by omega), hu]
     exact R.t _ u a1 hsa a2 hu
   generalize hy : ren (h i) (upd x.t i (some x.l.length)) = y at *
   obtain ⟨z1, -, z3, z4, z5⟩ := stp_alike E q v _ _ L.k1 L.k2 A
   obtain ⟨Q1, Q2, Q3, Q4⟩ := quiet E (h i) q.m (q.v (h i).a) (q.v (h i).b) q.c L.k1 L.k2
   have ha3 : (h i).kd = 3 → q.v (h i).a = v y.a := fun k => A.ar 0 (by rw [k]; decide)
   have ykd := A.kd
   have yw := A.w
   have ex : exL E q0 (x.l ++ [y]) = stp E y x.l.length ⟨c, q.m, v⟩ := by rw [exL_app, hx]; rfl
   have sn : ∀ w, (askN (neS h n (n - (i + 1))).d (h i)).sn w = true → q.c w = c w := fun w hw => R.c w (by rw [hd]; exact hw)
   have all : (ruT (h i).kd).leaves = true → q.c = c := fun hv => funext fun w => sn w (by unfold askN; simp only [if_pos hv]; show (decide (0 ≤ w) || (neS h n (n - (i + 1))).d.sn w) = true; rw [decide_eq_true (Nat.zero_le w)]; rfl)
   have hC : opC y c (v y.a) = (if (h i).kd = 3 then upd c (h i).w (q.v (h i).a) else c) := by
    unfold opC
    rw [ykd, yw]
    by_cases k : (h i).kd = 3
    ·rw [if_pos k, if_pos k, ha3 k]
    ·rw [if_neg k, if_neg k]
   refine ⟨fun c' m' y' he => ?_, fun q' he => ?_⟩
   ·rw [e2] at he
    unfold stp at he
    by_cases hL : opL E (h i) q.m (q.v (h i).a) = true
    ·rw [if_pos hL] at he
     have hv : (ruT (h i).kd).leaves = true := by
      cases k : (ruT (h i).kd).leaves with
      | true => rfl
      | false => rw [(Q1 k).1] at hL; cases hL
     show exL E q0 (x.l ++ [y]) = _
     rw [ex]
     unfold stp
     show (if opL E y q.m (v y.a) = true then _ else _) = _
     rw [← z1, if_pos hL, hC, if_neg (Q3 hv)]
     rw [Q2 (Q3 hv), all hv, z3, z4 hL] at he
     exact he
    ·rw [if_neg hL] at he; cases he
   ·rw [e2] at he
    unfold stp at he
    by_cases hL : opL E (h i) q.m (q.v (h i).a) = true
    ·rw [if_pos hL] at he; cases he
    rw [if_neg hL] at he
    cases he
    refine ⟨opC y c (v y.a), upd v x.l.length (opW E y c q.m (v y.a) (v y.b) (v y.c)), ?_, ⟨fun w hw => ?_, fun p u hp hsp hg hu => ?_⟩⟩
    ·show exL E q0 (x.l ++ [y]) = .go ⟨opC y c (v y.a), opM E (h i) q.m (q.v (h i).a) (q.v (h i).b), upd v x.l.length (opW E y c q.m (v y.a) (v y.b) (v y.c))⟩
     rw [ex]
     unfold stp
     show (if opL E y q.m (v y.a) = true then _ else _) = _
     rw [← z1, if_neg hL, z3]
    ·show opC (h i) q.c (q.v (h i).a) w = opC y c (v y.a) w
     rw [hC]
     cases hv : (ruT (h i).kd).leaves with
     | true => rw [Q2 (Q3 hv), if_neg (Q3 hv), all hv]
     | false =>
      have nv : ¬ (ruT (h i).kd).leaves = true := by rw [hv]; decide
      by_cases k3 : (h i).kd = 3
      ·rw [if_pos k3]
       unfold opC
       rw [if_pos k3]
       by_cases ew : w = (h i).w
       ·exact (if_pos ew).trans (if_pos ew).symm
       ·refine (if_neg ew).trans (Eq.trans (sn w ?_) (if_neg ew).symm)
        unfold askN
        simp only [if_neg nv, if_neg (show ¬ (h i).kd = 17 by omega), if_neg (show ¬ (h i).kd = 2 by omega), if_pos k3]
        exact (if_neg ew).trans hw
      ·rw [Q2 k3, if_neg k3]
       refine sn w ?_
       unfold askN
       simp only [if_neg nv]
       by_cases k17 : (h i).kd = 17
       ·simp only [if_pos k17]
        show (decide (8 ≤ w) || (neS h n (n - (i + 1))).d.sn w) = true
        rw [hw, Bool.or_true]
       ·simp only [if_neg k17]
        by_cases k2 : (h i).kd = 2
        ·simp only [if_pos k2]
         unfold upd
         split
         ·rfl
         ·exact hw
        ·simp only [if_neg k2, if_neg k3]; exact hw
    ·have hu' : upd x.t i (some x.l.length) p = some u := hu
     show upd q.v i (opW E (h i) q.c q.m (q.v (h i).a) (q.v (h i).b) (q.v (h i).c)) p = upd v x.l.length (opW E y c q.m (v y.a) (v y.b) (v y.c)) u
     by_cases e : p = i
     ·have : some x.l.length = some u := by rw [← hu']; exact (if_pos e).symm
      cases this
      rw [e] at hg
      refine (if_pos e).trans (Eq.trans ?_ (if_pos rfl).symm)
      rw [z5 hg]
      refine opW_c E y q.c c q.m _ _ _ (fun k => sn _ ?_) (fun k w h8 => sn w ?_)
      ·have k' : (h i).kd = 2 := by rw [← ykd]; exact k
       unfold askN
       rw [yw]
       simp only [if_neg (show ¬ (ruT (h i).kd).leaves = true by rw [k']; decide), if_neg (show ¬ (h i).kd = 17 by omega), if_pos k']
       exact if_pos rfl
      ·have k' : (h i).kd = 17 := by rw [← ykd]; exact k
       unfold askN
       simp only [if_neg (show ¬ (ruT (h i).kd).leaves = true by rw [k']; decide), if_pos k']
       show (decide (8 ≤ w) || (neS h n (n - (i + 1))).d.sn w) = true
       rw [decide_eq_true h8]; rfl
     ·have hu2 : x.t p = some u := by rw [← hu']; exact (if_neg e).symm
      obtain ⟨u', hu3, hu4, -⟩ := I.tt p (by omega) hsp
      rw [hu2] at hu3
      cases hu3
      refine (if_neg e).trans (Eq.trans (R.t p u (by omega) hsp hg hu2) (if_neg (by omega)).symm)
theorem kd_all {count : Int} (E : Me M X) (q0 : Qm M) {h : Nat → ON} {n : Nat} (B : Blk count h n) (ks : ∀ i, (h i).k < 4294967296) : ∀ i, i ≤ n → Kd E q0 h n i (keS h (syF h n) i)
 | 0, _ => by
  refine ⟨fun c m y he => (by cases he), fun q he => ?_⟩
  cases he
  exact ⟨q0.c, q0.v, rfl, ⟨fun _ _ => rfl, fun p u hp => absurd hp (Nat.not_lt_zero _)⟩⟩
 | i + 1, hi => kd_step E q0 B ks (by omega) (kd_all E q0 B ks i (by omega))
theorem ned_same {count bytes : Int} {l : List ON} (g : G count bytes l) (E : Me M X) (q0 : Qm M) {c : Nat → Nat} {m : M} {y : X} (h : exL E q0 l = .out c m y) : exL E q0 (nedL l) = .out c m y := by
 obtain ⟨h1, h2, h3⟩ := (G_iff _ _ _).1 g
 exact (kd_all E q0 h2 h3 l.length (Nat.le_refl _)).1 c m y h
end
section
variable {M X : Type}
structure G2 (count bytes : Int) (E : Me M X) (l0 l : List ON) : Prop where
 g : G count bytes l
 le : l.length ≤ l0.length
 sm : ∀ q0 c m y, exL E q0 l0 = .out c m y → exL E q0 l = .out c m y
theorem set_len {count bytes : Int} {l : List ON} (g : G count bytes l) : (setL l).length ≤ l.length := by
 obtain ⟨h1, h2, h3⟩ := (G_iff _ _ _).1 g
 exact (inv_all h2 h3 h1.1.1 l.length (Nat.le_refl _)).len
theorem ned_len (l : List ON) : (nedL l).length ≤ l.length := keS_len _ _ _
theorem good2 (count bytes : Int) (E : Me M X) (l0 : List ON) : GoodP (G2 count bytes E l0) mu := by
 have H := good count bytes
 exact ⟨fun g => H.l0 g.g, fun g => H.l1 g.g, fun g => H.st g.g, fun g => H.ne g.g, fun g => ⟨g_set g.g, Nat.le_trans (set_len g.g) g.le, fun q0 c m y h => set_same g.g E q0 (g.sm q0 c m y h)⟩, fun g => ⟨g_ned g.g, Nat.le_trans (ned_len _) g.le, fun q0 c m y h => ned_same g.g E q0 (g.sm q0 c m y h)⟩, fun g hp => H.mu g.g hp⟩
theorem g2_self {count bytes : Int} (E : Me M X) {l : List ON} (g : G count bytes l) : G2 count bytes E l l := ⟨g, Nat.le_refl _, fun _ _ _ _ h => h⟩
theorem blk_out {count bytes : Int} {l : List ON} (g : G count bytes l) (E : Me M X) (q0 : Qm M) : ∃ c m y, exL E q0 l = .out c m y := by
 obtain ⟨-, B, -⟩ := (G_iff _ _ _).1 g
 have n0 := B.n0
 have hla := B.la
 unfold exL
 generalize hOf l = h at *
 obtain ⟨n, hn⟩ : ∃ n, l.length = n + 1 := ⟨l.length - 1, by omega⟩
 rw [hn] at hla ⊢
 have hla' : enN (h n).kd = true := hla
 show ∃ c m y, nxt E (h n) n (exN E q0 h n) = .out c m y
 cases exN E q0 h n with
 | out c m y => exact ⟨c, m, y, rfl⟩
 | go q =>
  refine ⟨opC (h n) q.c (q.v (h n).a), opM E (h n) q.m (q.v (h n).a) (q.v (h n).b), opX E (h n) q.m (q.v (h n).a), ?_⟩
  show stp E (h n) n q = _
  have L := B.loc n (by omega)
  have hL : opL E (h n) q.m (q.v (h n).a) = true := by
   unfold opL
   have k1 := L.k1
   have k2 := L.k2
   rcases (by omega : ((h n).kd = 14 ∨ (h n).kd = 15 ∨ (h n).kd = 16) ∨ (h n).kd < 14 ∨ (h n).kd = 17) with k | k
   ·rcases k with k | k | k <;> rw [k] <;> rfl
   ·exfalso
    generalize (h n).kd = kd at *
    rcases k with k | k
    ·match kd, k, k1 with
     | 1, _, _ | 2, _, _ | 3, _, _ | 4, _, _ | 5, _, _ | 6, _, _ | 7, _, _ | 8, _, _ | 9, _, _ | 10, _, _ | 11, _, _ | 12, _, _ | 13, _, _ => exact absurd hla' (by decide)
     | m + 14, h', _ => exact absurd h' (by omega)
    ·rw [k] at hla'; exact absurd hla' (by decide)
  unfold stp
  rw [if_pos hL]
end
theorem flags_hi (k : Int) (a b d : Nat) (h : 12 < k) : Va.Fl.flagsF k a b d = Va.Fl.flagsF 0 a b d := by
 unfold Va.Fl.flagsF
 rw [if_neg (by omega), if_neg (by omega), if_neg (by omega), if_neg (by omega), if_neg (by omega), if_neg (by omega), if_neg (by omega), if_neg (by omega), if_neg (by omega)]
 rw [if_neg (by omega), if_neg (by omega), if_neg (by omega), if_neg (by omega), if_neg (by omega), if_neg (by omega), if_neg (by omega), if_neg (by omega), if_neg (by omega)]
def refE : Me Va.MS Va.ExR where
 ldV w a m := Va.ldWo m w a
 ldB w a m := Va.stK 5 (Va.badN m 1 a (Va.ldNo w).toNat) != 0
 ldX w k n a m := ⟨Va.stK 5 (Va.badN m 1 a (Va.ldNo w).toNat), Va.stA (Va.badN m 1 a (Va.ldNo w).toNat), k, n⟩
 stM w a b m := Va.storeT m a (Va.stN w) b
 stB w a m := Va.stK 6 (Va.sto m a (Va.stN w)) != 0
 stX w k n a m := ⟨Va.stK 6 (Va.sto m a (Va.stN w)), Va.stA (Va.sto m a (Va.stN w)), k, n⟩
 tch m := Va.touchB m
 ex a b c d := ⟨a, b, c, d⟩
 flg c := (Va.cxF c).toNat
 fk c := by
  show (Va.Fl.flagsF (c 8) (c 9) (c 10) (c 11)).toNat = _
  simp only [vOf]
  by_cases h : c 8 ≤ 12
  ·simp [h]
  ·rw [if_neg h, flags_hi _ _ _ _ (by omega)]; simp
theorem one_step (o : ON) (i : Nat) (q : Qm Va.MS) (s : Va.Sq) (hc : s.c = q.c) (hm : s.s = q.m) (h1 : 1 ≤ o.kd) (h2 : o.kd ≤ 17) (ha : ∀ z, z < tkN o.kd → s.v (arg o z) = q.v (arg o z)) :
  Va.leftO (rO o) s = opL refE o q.m (q.v o.a) ∧ (Va.nextO (rO o) i s).c = opC o q.c (q.v o.a) ∧ (Va.nextO (rO o) i s).s = opM refE o q.m (q.v o.a) (q.v o.b) ∧ (opL refE o q.m (q.v o.a) = true → Va.exO (rO o) s = opX refE o q.m (q.v o.a)) ∧ (gvN o.kd = true → (Va.nextO (rO o) i s).v i = opW refE o q.c q.m (q.v o.a) (q.v o.b) (q.v o.c)) ∧ ∀ j, j ≠ i → (Va.nextO (rO o) i s).v j = s.v j := by
 have a0 : 0 < tkN o.kd → s.v o.a = q.v o.a := ha 0
 have a1 : 1 < tkN o.kd → s.v o.b = q.v o.b := ha 1
 have a2 : 2 < tkN o.kd → s.v o.c = q.v o.c := ha 2
 obtain ⟨c, m, v⟩ := q
 obtain ⟨c', m', v'⟩ := s
 simp only at hc hm a0 a1 a2
 subst hc hm
 clear ha
 obtain ⟨kd, w, a, b, d, k, n⟩ := o
 simp only at h1 h2 a0 a1 a2
 rcases (by omega : kd = 1 ∨ kd = 2 ∨ kd = 3 ∨ kd = 4 ∨ kd = 5 ∨ kd = 6 ∨ kd = 7 ∨ kd = 8 ∨ kd = 9 ∨ kd = 10 ∨ kd = 11 ∨ kd = 12 ∨ kd = 13 ∨ kd = 14 ∨ kd = 15 ∨ kd = 16 ∨ kd = 17) with rfl | rfl | rfl | rfl | rfl | rfl | rfl | rfl | rfl | rfl | rfl | rfl | rfl | rfl | rfl | rfl | rfl <;> simp [tkN, ruT] at a0 a1 a2 <;> refine ⟨?_, ?_, ?_, ?_, ?_, ?_⟩ <;> simp (config := { contextual := true }) [Va.leftO, Va.nextO, Va.exO, Va.isV, Va.valV, Va.pvalF, Va.valF, Va.updC, Va.ldO, Va.stO, upd, rO, opL, opC, opM, opX, opW, vOf, enN, gvN, rrT, refE, *]
 all_goals first | rfl | (split <;> simp; done) | (cases v a <;> simp; done) | (rw [Bool.eq_iff_iff]; simp; done) | (rw [Bool.eq_iff_iff]; simp; omega)
section
variable {M X : Type}
def exT (E : Me M X) (h : Nat → ON) : Nat → Nat → Qm M → Rs M X
 | 0, _, q => .go q
 | m + 1, i, q => match stp E (h i) i q with
  | .go q' => exT E h m (i + 1) q'
  | .out c y x => .out c y x
theorem exN_T (E : Me M X) (q0 : Qm M) (h : Nat → ON) : ∀ m i, exN E q0 h (i + m) = (match exN E q0 h i with
  | .go q => exT E h m i q
  | .out c y x => .out c y x)
 | 0, i => by
  show exN E q0 h i = _
  cases exN E q0 h i <;> rfl
 | m + 1, i => by
  rw [show i + (m + 1) = (i + 1) + m by omega, exN_T E q0 h m (i + 1)]
  show (match nxt E (h i) i (exN E q0 h i) with
   | .go q => exT E h m (i + 1) q
   | .out c y x => .out c y x) = _
  cases exN E q0 h i with
  | go q => rfl
  | out c y x => rfl
end
structure RlS (h : Nat → ON) (i : Nat) (q : Qm Va.MS) (s : Va.Sq) : Prop where
 c : s.c = q.c
 m : s.s = q.m
 v : ∀ j, j < i → gvN (h j).kd = true → s.v j = q.v j
theorem ref_T {count : Int} {h : Nat → ON} {n : Nat} (B : Blk count h n) : ∀ m i q s, i + m = n → RlS h i q s → ∀ c' m' x, exT refE h m i q = .out c' m' x → (Va.runO (fun j => rO (h j)) m i s).1.c = c' ∧ (Va.runO (fun j => rO (h j)) m i s).1.s = m' ∧ (Va.runO (fun j => rO (h j)) m i s).2.1 = x
 | 0, i, q, s, hi, hr, c', m', x, e => by cases e
 | m + 1, i, q, s, hi, hr, c', m', x, e => by
  have L := B.loc i (by omega)
  obtain ⟨p1, p2, p3, p4, p5, p6⟩ := one_step (h i) i q s hr.c hr.m L.k1 L.k2 (fun z hz => hr.v _ (B.ar i (by omega) z hz).1 (B.ar i (by omega) z hz).2)
  unfold exT stp at e
  unfold Va.runO
  rw [p1]
  by_cases hl : opL refE (h i) q.m (q.v (h i).a) = true
  ·rw [if_pos hl] at e ⊢
   cases e
   exact ⟨p2, p3, p4 hl⟩
  ·rw [if_neg hl] at e ⊢
   refine ref_T B m (i + 1) _ _ (by omega) ⟨p2, p3, fun j hj hg => ?_⟩ c' m' x e
   by_cases hji : j = i
   ·subst hji; rw [p5 hg]; simp [upd]
   ·rw [p6 j hji, hr.v j (by omega) hg]; simp [upd, hji]
theorem ref_run {count bytes : Int} {l : List ON} (g : G count bytes l) (c : Nat → Nat) (s : Va.MS) {c' : Nat → Nat} {m' : Va.MS} {x : Va.ExR} (h : exL refE ⟨c, s, fun _ => 0⟩ l = .out c' m' x) :
  (Va.runO (fun j => rO (hOf l j)) l.length 0 ⟨c, s, fun _ => 0⟩).1.c = c' ∧ (Va.runO (fun j => rO (hOf l j)) l.length 0 ⟨c, s, fun _ => 0⟩).1.s = m' ∧ (Va.runO (fun j => rO (hOf l j)) l.length 0 ⟨c, s, fun _ => 0⟩).2.1 = x := by
 obtain ⟨-, B, -⟩ := (G_iff _ _ _).1 g
 refine ref_T B l.length 0 ⟨c, s, fun _ => 0⟩ ⟨c, s, fun _ => 0⟩ (by omega) ⟨rfl, rfl, fun j hj => by omega⟩ c' m' x ?_
 have e := exN_T refE ⟨c, s, fun _ => 0⟩ (hOf l) l.length 0
 rw [Nat.zero_add] at e
 exact e.symm.trans h
theorem out_pc (q0 : Qm Va.MS) (h : Nat → ON) : ∀ n c m x, exN refE q0 h n = .out c m x → ∃ p : Nat, x.pc = (p : Int)
 | 0, c, m, x, e => by cases e
 | n + 1, c, m, x, e => by
  have e' : nxt refE (h n) n (exN refE q0 h n) = .out c m x := e
  cases hh : exN refE q0 h n with
  | out c1 m1 x1 =>
   rw [hh] at e'
   cases e'
   exact out_pc q0 h n _ _ _ hh
  | go q =>
   rw [hh] at e'
   have e2 : stp refE (h n) n q = .out c m x := e'
   unfold stp at e2
   split at e2
   ·cases e2
    unfold opX
    repeat' split
    all_goals exact ⟨_, rfl⟩
   ·cases e2
end Go.Proofs.Ytkgbjpdoigdjnab
