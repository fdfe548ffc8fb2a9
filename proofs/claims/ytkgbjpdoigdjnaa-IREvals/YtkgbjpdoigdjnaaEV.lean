import Derived.Test.YtkgbjpdoigdjnaaEO
import Derived.Test.YtkgbjpdoigdjnaaEP
import Derived.Test.YtkgbjpdoigdjnaaEQ
namespace Go.Proofs.Ytkgbjpdoigdjnaa
open Go.RowKit
set_option maxRecDepth 100000
set_option linter.unusedVariables false
set_option linter.unusedSimpArgs false
theorem Chg.inP {P V X : Nat} {w w' : World} (h : Chg [P] w w') : Chg [P, V, X] w w' := h.mono (by intro x hx; simp at hx ⊢; exact Or.inl hx)
theorem Chg.inV {P V X : Nat} {w w' : World} (h : Chg [V] w w') : Chg [P, V, X] w w' := h.mono (by intro x hx; simp at hx ⊢; exact Or.inr (Or.inl hx))
theorem Chg.inX {P V X : Nat} {w w' : World} (h : Chg [X] w w') : Chg [P, V, X] w w' := h.mono (by intro x hx; simp at hx ⊢; exact Or.inr (Or.inr hx))
theorem kinds {k : Int} (h1 : 1 ≤ k) (h2 : k ≤ 17) : isV k ∨ k = 3 ∨ k = 9 ∨ k = 10 ∨ k = 11 ∨ k = 12 ∨ k = 13 ∨ k = 14 ∨ k = 15 ∨ k = 16 := by unfold isV; omega
theorem pdo_any (P V X n i : Nat) (o : OpR) (q : Sq) (w : World) (hH : HoldsOk) (hg : OpGood n o) (hn : n ≤ 2048) (hq : StOk q) (hk : o.k < 4294967296) (hi : i < n) (h : WkW w P V X n q) :
    Calls Try.prog 142 #[.pointer (some ⟨P, 0, none⟩), .int .i64 i, .agg #[.int .i64 o.kind, .int .i64 o.w, .int .i64 o.a, .int .i64 o.b, .int .i64 o.c, .int .u32 o.k, .int .i64 o.n]] w fun e w' => e = .returned (.tuple #[exR (exO o q), .bool (leftO o q)]) ∧ WkW w' P V X n (nextO o i q) ∧ Chg [P, V, X] w w' := by
  rcases kinds hg.k1 hg.k2 with e | e | e | e | e | e | e | e | e | e
  · have e' := e
    have bd := pvalF_bd o q.c (q.v o.a.toNat) (q.v o.b.toNat) (q.v o.c.toNat) hq.c (hq.v _) (hq.v _) (hq.v _) hk
    have n1 : exO o q = ⟨0, 0, o.k, o.n⟩ := by unfold isV at e; unfold exO; rw [if_neg (by omega), if_neg (by omega), if_neg (by omega), if_neg (by omega), if_neg (by omega)]
    have n2 : leftO o q = false := by unfold isV at e; unfold leftO; rw [if_neg (by omega), if_neg (by omega), if_neg (by omega), if_neg (by omega)]; exact decide_eq_false (by omega)
    have n3 : nextO o i q = ⟨q.c, q.s, updC q.v i (valV o q).toNat⟩ := by unfold nextO; rw [if_neg (by unfold isV at e; omega), if_neg (by unfold isV at e; omega), if_neg (by unfold isV at e; omega), if_pos e]
    rw [n1, n2, n3]
    refine (pdoV P V X n i (valV o q).toNat q.c q.v o w h.k h.fV hq.v hn e' hg.a hi h.pv (fun W hW => ?_)).mono ?_
    · have := pval_any P V X n q.c q.v o W hH (h.k.below hW h.n0) hq.c hq.v hn e' hg
      rw [show ((valV o q).toNat : Int) = valV o q from Int.toNat_of_nonneg bd.1]
      exact this
    · rintro e1 w' ⟨rfl, c1, c2, c3⟩
      exact ⟨rfl, h.chgV c2 c1 c3, c2.inV⟩
  · skip
    have n1 : exO o q = ⟨0, 0, o.k, o.n⟩ := by unfold exO; rw [if_neg (by omega), if_neg (by omega), if_neg (by omega), if_neg (by omega), if_neg (by omega)]
    have n2 : leftO o q = false := by unfold leftO; rw [if_neg (by omega), if_neg (by omega), if_neg (by omega), if_neg (by omega)]; exact decide_eq_false (by omega)
    have n3 : nextO o i q = ⟨updC q.c o.w.toNat (q.v o.a.toNat), q.s, q.v⟩ := by unfold nextO; rw [if_pos (by omega)]
    rw [n1, n2, n3]
    have w2 : 0 ≤ o.w ∧ o.w ≤ 11 := by have h1 := hg.lo; have h2 := hg.hi; rw [e] at h1 h2; exact ⟨h1, h2⟩
    refine (pdo3f P V X n i q.c q.v o w h.k h.fP hq.v hn e hg.a w2 h.pv.symm).mono ?_
    rintro e1 w' ⟨rfl, c1, c2, c3⟩
    exact ⟨rfl, h.chgP c2 c1 c3, c2.inP⟩
  · skip
    have n1 : exO o q = ⟨stK 5 (ldO o q), stA (ldO o q), o.k, o.n⟩ := by unfold exO; rw [if_pos (by omega)]
    have n2 : leftO o q = (stK 5 (ldO o q) != 0) := by unfold leftO; rw [if_pos (by omega)]
    have n3 : nextO o i q = ⟨q.c, q.s, updC q.v i (ldW q.s o.w (q.v o.a.toNat))⟩ := by unfold nextO; rw [if_neg (by omega), if_pos (by omega)]
    rw [n1, n2, n3]
    have w2 : 0 ≤ o.w ∧ o.w ≤ 4 := by have h1 := hg.lo; have h2 := hg.hi; rw [e] at h1 h2; exact ⟨h1, h2⟩
    refine (pdo9 P V X n i (ldW q.s o.w (q.v o.a.toNat)) (stK 5 (ldO o q)) (stA (ldO o q)) q.c q.v o w h.k h.fV hq.v hn e hg.a hi h.pv (fun W hW => ?_)).mono ?_
    · exact pld_any X (q.v o.a.toNat) o.w q.s W (hq.v _) hq.s (h.m.below hW h.m.lt) w2
    · rintro e1 w' ⟨rfl, c1, c2, c3⟩
      exact ⟨rfl, h.chgV c2 c1 c3, c2.inV⟩
  · skip
    have n1 : exO o q = ⟨stK 6 (stO o q), stA (stO o q), o.k, o.n⟩ := by unfold exO; rw [if_neg (by omega), if_pos (by omega)]
    have n2 : leftO o q = (stK 6 (stO o q) != 0) := by unfold leftO; rw [if_neg (by omega), if_pos (by omega)]
    have n3 : nextO o i q = ⟨q.c, storeT q.s (q.v o.a.toNat) (stN o.w) (q.v o.b.toNat), q.v⟩ := by unfold nextO; rw [if_neg (by omega), if_neg (by omega), if_pos (by omega)]
    rw [n1, n2, n3]
    have w2 : 0 ≤ o.w ∧ o.w ≤ 2 := by have h1 := hg.lo; have h2 := hg.hi; rw [e] at h1 h2; exact ⟨h1, h2⟩
    refine (pdo10 P V X n i (stK 6 (stO o q)) (stA (stO o q)) q.c q.v q.s (storeT q.s (q.v o.a.toNat) (stN o.w) (q.v o.b.toNat)) o w h.k h.fV h.m hq.v hn e hg.a (hg.b (by omega)) h.pv h.px h.vx (fun W hW => ?_)).mono ?_
    · exact pst_any X (q.v o.a.toNat) (q.v o.b.toNat) o.w q.s W (hq.v _) (hq.v _) hq.s (h.m.below hW h.m.lt) w2
    · rintro e1 w' ⟨rfl, c1, c2⟩
      exact ⟨rfl, h.chgX c2 c1, c2.inX⟩
  · skip
    have n1 : exO o q = ⟨0, 0, o.k, o.n⟩ := by unfold exO; rw [if_neg (by omega), if_neg (by omega), if_neg (by omega), if_neg (by omega), if_neg (by omega)]
    have n2 : leftO o q = touchB q.s := by unfold leftO; rw [if_neg (by omega), if_neg (by omega), if_pos (by omega)]
    have n3 : nextO o i q = q := by unfold nextO; rw [if_neg (by omega), if_neg (by omega), if_neg (by omega), if_neg (by unfold isV; omega)]
    rw [n1, n2, n3]
    refine (pdo11 P V X n i q.c q.v q.s o w h.k h.m hq.v hn e hg.a).mono ?_
    rintro e1 w' ⟨rfl, c1⟩
    exact ⟨rfl, h.below c1, Chg.of_below _ c1⟩
  · skip
    have n1 : exO o q = ⟨0, 0, o.k, o.n⟩ := by unfold exO; rw [if_neg (by omega), if_neg (by omega), if_neg (by omega), if_neg (by omega), if_neg (by omega)]
    have n2 : leftO o q = ((q.v o.a.toNat : Int) != 0) := by unfold leftO; rw [if_neg (by omega), if_neg (by omega), if_neg (by omega), if_pos (by omega)]
    have n3 : nextO o i q = q := by unfold nextO; rw [if_neg (by omega), if_neg (by omega), if_neg (by omega), if_neg (by unfold isV; omega)]
    rw [n1, n2, n3]
    refine (pdo12 P V X n i q.c q.v o w h.k hq.v hn e hg.a).mono ?_
    rintro e1 w' ⟨rfl, c1⟩
    exact ⟨rfl, h.below c1, Chg.of_below _ c1⟩
  · skip
    have n1 : exO o q = ⟨o.w, 0, o.k, o.n⟩ := by unfold exO; rw [if_neg (by omega), if_neg (by omega), if_pos (by omega)]
    have n2 : leftO o q = ((q.v o.a.toNat : Int) != 0) := by unfold leftO; rw [if_neg (by omega), if_neg (by omega), if_neg (by omega), if_pos (by omega)]
    have n3 : nextO o i q = q := by unfold nextO; rw [if_neg (by omega), if_neg (by omega), if_neg (by omega), if_neg (by unfold isV; omega)]
    rw [n1, n2, n3]
    refine (pdo13 P V X n i q.c q.v o w h.k hq.v hn e hg.a).mono ?_
    rintro e1 w' ⟨rfl, c1⟩
    exact ⟨rfl, h.below c1, Chg.of_below _ c1⟩
  · skip
    have n1 : exO o q = ⟨o.w, o.b, o.k, o.n⟩ := by unfold exO; rw [if_neg (by omega), if_neg (by omega), if_neg (by omega), if_pos (by omega)]
    have n2 : leftO o q = true := by unfold leftO; rw [if_neg (by omega), if_neg (by omega), if_neg (by omega), if_neg (by omega)]; exact decide_eq_true (by omega)
    have n3 : nextO o i q = q := by unfold nextO; rw [if_neg (by omega), if_neg (by omega), if_neg (by omega), if_neg (by unfold isV; omega)]
    rw [n1, n2, n3]
    refine (pdo14 P V X n i q.c q.v o w h.k hq.v hn e hg.a (hg.b14 e)).mono ?_
    rintro e1 w' ⟨rfl, c1⟩
    exact ⟨rfl, h.below c1, Chg.of_below _ c1⟩
  · skip
    have n1 : exO o q = ⟨0, 0, o.k, o.n⟩ := by unfold exO; rw [if_neg (by omega), if_neg (by omega), if_neg (by omega), if_neg (by omega), if_neg (by omega)]
    have n2 : leftO o q = true := by unfold leftO; rw [if_neg (by omega), if_neg (by omega), if_neg (by omega), if_neg (by omega)]; exact decide_eq_true (by omega)
    have n3 : nextO o i q = q := by unfold nextO; rw [if_neg (by omega), if_neg (by omega), if_neg (by omega), if_neg (by unfold isV; omega)]
    rw [n1, n2, n3]
    refine (pdo15 P V X n i q.c q.v o w h.k hq.v hn e hg.a).mono ?_
    rintro e1 w' ⟨rfl, c1⟩
    exact ⟨rfl, h.below c1, Chg.of_below _ c1⟩
  · skip
    have n1 : exO o q = ⟨0, 0, q.v o.a.toNat, o.n⟩ := by unfold exO; rw [if_neg (by omega), if_neg (by omega), if_neg (by omega), if_neg (by omega), if_pos (by omega)]
    have n2 : leftO o q = true := by unfold leftO; rw [if_neg (by omega), if_neg (by omega), if_neg (by omega), if_neg (by omega)]; exact decide_eq_true (by omega)
    have n3 : nextO o i q = q := by unfold nextO; rw [if_neg (by omega), if_neg (by omega), if_neg (by omega), if_neg (by unfold isV; omega)]
    rw [n1, n2, n3]
    refine (pdo16 P V X n i q.c q.v o w h.k hq.v hn e hg.a).mono ?_
    rintro e1 w' ⟨rfl, c1⟩
    exact ⟨rfl, h.below c1, Chg.of_below _ c1⟩
end Go.Proofs.Ytkgbjpdoigdjnaa
