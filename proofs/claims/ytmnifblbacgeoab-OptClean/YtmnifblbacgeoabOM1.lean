import Derived.Test.YtmnifblbacgeoabOJ
namespace Go.Proofs.Ytmnifblbacgeoab
open Go.RowKit
open Go.Maps
set_option maxRecDepth 100000
set_option linter.unusedVariables false
set_option linter.unusedSimpArgs false

/-- The slots' values are laid. -/
def SlOk (s : SE) : Prop := ∀ i v, s.sl i = some v → v < s.l.length
def KsOk (s : SE) : Prop := ∀ i, (s.l.getD i onD).k < 4294967296
theorem SW.other {w : World} {base X M : Nat} {s : SE} {l : List ON} {sv : Value} (h : SW w base X M s l sv) (x : ON) (hx : isP x.kd = false) : SW w base X M s (l ++ [x]) sv := by
  obtain ⟨D, hD, hm⟩ := h.mp
  exact ⟨h.xb, h.o, ⟨D, hD.mono (by simp), hm.other hx⟩, h.bX, h.bM, h.bw⟩
/-- What tell answers, and leaves. -/
def telS (s : SE) (o : ON) : SE × Option Nat :=
  match s.now with
  | some v => (s, some v)
  | none => if knB s then recS s (mdO s) else ({ s with l := s.l ++ [o], now := some s.l.length }, some s.l.length)
theorem kn_all {s : SE} (h : knB s = true) : ∃ v8 v9 v10 v11, s.sl 8 = some v8 ∧ s.sl 9 = some v9 ∧ s.sl 10 = some v10 ∧ s.sl 11 = some v11 := by
  unfold knB at h
  simp only [Bool.and_eq_true] at h
  obtain ⟨⟨⟨⟨h8, h9⟩, h10⟩, h11⟩, -⟩ := h
  obtain ⟨a, ha⟩ := Option.isSome_iff_exists.1 h8
  obtain ⟨b, hb⟩ := Option.isSome_iff_exists.1 h9
  obtain ⟨c, hc⟩ := Option.isSome_iff_exists.1 h10
  obtain ⟨d, hd⟩ := Option.isSome_iff_exists.1 h11
  exact ⟨a, b, c, d, ha, hb, hc, hd⟩
theorem md_ok {s : SE} (hs : SlOk s) (hk : KsOk s) (hl : s.l.length < 100000) (h : knB s = true) : RecOk s (mdO s) := by
  obtain ⟨v8, v9, v10, v11, h8, h9, h10, h11⟩ := kn_all h
  have l9 := hs _ _ h9
  have l10 := hs _ _ h10
  have l11 := hs _ _ h11
  have e : mdO s = ⟨7, if (s.l.getD v8 onD).k ≤ 12 then (s.l.getD v8 onD).k else 0, v9, v10, v11, 0, 0⟩ := by unfold mdO; rw [h8, h9, h10, h11]; rfl
  have hw : (if (s.l.getD v8 onD).k ≤ 12 then (s.l.getD v8 onD).k else 0) ≤ 12 := by split <;> omega
  rw [e]
  generalize (if (s.l.getD v8 onD).k ≤ 12 then (s.l.getD v8 onD).k else 0) = ww at hw
  refine ⟨rfl, ⟨by show 7 < _; omega, by show ww < _; omega, by show v9 < _; omega, by show v10 < _; omega, by show v11 < _; omega, by show 0 < _; omega, by show 0 < _; omega⟩, fun q hq => ?_, fun h => absurd h (by show ¬ tkN 7 < 2; decide), fun h => absurd h (by show ¬ tkN 7 < 3; decide), fun h => by (rcases h with h | h <;> exact absurd h (by show ¬ 7 = _; decide)), fun h => absurd h (by show ¬ 7 = 5; decide), hk⟩
  have hq3 : q < 3 := hq
  rcases (by omega : q = 0 ∨ q = 1 ∨ q = 2) with rfl | rfl | rfl
  · exact l9
  · exact l10
  · exact l11
set_option maxHeartbeats 2000000 in
theorem tell_any (base X M : Nat) (s : SE) (sv : Value) (o : ON) (w : World) (HREC : ∀ (s : SE) (sv : Value) (o : ON) (w : World), SW w base X M s s.l sv → s.l.length < 100000 → RecOk s o → Calls Try.prog 169 #[.pointer (some ⟨X, 0, none⟩), .agg #[.int .i64 o.kd, .int .i64 o.w, .int .i64 o.a, .int .i64 o.b, .int .i64 o.c, .int .u32 o.k, .int .i64 o.n]] w fun e w' => e = .returned (.int .i64 (oI (recS s o).2)) ∧ ∃ sv', SW w' base X M (recS s o).1 (recS s o).1.l sv' ∧ Kz base X M sv w sv' w') (hS : SW w base X M s s.l sv) (hl : s.l.length < 100000) (hs : SlOk s) (hk : KsOk s) (ho : o.kd = 17) :
    Calls Try.prog 173 #[.pointer (some ⟨X, 0, none⟩), .agg #[.int .i64 o.kd, .int .i64 o.w, .int .i64 o.a, .int .i64 o.b, .int .i64 o.c, .int .u32 o.k, .int .i64 o.n]] w fun e w' => e = .returned (.int .i64 (oI (telS s o).2)) ∧ ∃ sv', SW w' base X M (telS s o).1 (telS s o).1.l sv' ∧ Kz base X M sv w sv' w' := by
  have HSX : Hid (SX w _ base X M s s.l sv sv _) := SX.start hS o
  have HS : Hid _ := hS
  have HL : Hid (s.l.length < 100000) := hl
  have lX := hS.xb.lt
  have lX1 := Nat.lt_succ_of_lt lX
  have neX : X ≠ w.heap.size := by omega
  have c14 : w.cell? ⟨X, 14, none⟩ = some (.int .i64 (oI s.now)) := hS.xb.cell (i := 14) (by omega)
  obtain ⟨S, HN⟩ : ∃ S, Hid (s.now = S) := ⟨_, rfl⟩
  rw [HN.out] at c14
  have HRC : Hid _ := HREC
  cases S with
  | some v =>
    have HG : Hid (telS s o = (s, some v)) := show _ = _ by unfold telS; rw [HN.out]
    rw [HG.out]
    rw [oI_some] at c14
    have dv : ((v : Int) == -1) = false := by simp
    clear hS hl hs hk ho HREC HRC
    go_enter Try.func173, Try.ntmps173
    go_wp2
    go_ret
    exact ⟨rfl, _, HS.out.below (by (repeat first | with_reducible exact Below.refl _ _ | with_reducible exact Below.refl _ _ | with_reducible refine Below.drew ?_ | with_reducible refine below_drewN ?_ _ | with_reducible refine Below.alloc ?_ (by first | (simp; done) | (simp; omega) | omega) _ | with_reducible refine Below.setCell ?_ (by first | (simp; done) | (simp; omega) | omega) _)), Kz.of_below (by (repeat first | with_reducible exact Below.refl _ _ | with_reducible exact Below.refl _ _ | with_reducible refine Below.drew ?_ | with_reducible refine below_drewN ?_ _ | with_reducible refine Below.alloc ?_ (by first | (simp; done) | (simp; omega) | omega) _ | with_reducible refine Below.setCell ?_ (by first | (simp; done) | (simp; omega) | omega) _)) HS.out.bw⟩
  | none =>
    rw [oI_none] at c14
    obtain ⟨B, HB⟩ : ∃ B, Hid (knB s = B) := ⟨_, rfl⟩
    have H8 : Hid (∀ v, s.sl 8 = some v → v < s.l.length) := hs 8
    cases B with
    | true =>
      obtain ⟨v8, v9, v10, v11, h8, h9, h10, h11⟩ := kn_all HB.out
      have HMD : Hid (RecOk s (mdO s)) := md_ok hs hk hl HB.out
      have HMA : Hid (∀ W, SW W base X M s s.l sv → Calls Try.prog 192 #[.pointer (some ⟨X, 0, none⟩)] W fun e w' => e = .returned (.agg #[.int .i64 (mdO s).kd, .int .i64 (mdO s).w, .int .i64 (mdO s).a, .int .i64 (mdO s).b, .int .i64 (mdO s).c, .int .u32 (mdO s).k, .int .i64 (mdO s).n]) ∧ Below W.heap.size W w') := show ∀ W, _ from fun W h => made_any base X M s s.l sv v8 v9 v10 v11 W h h8 h9 h10 h11 (hs 8 v8 h8)
      have HG : Hid (telS s o = recS s (mdO s)) := show _ = _ by unfold telS; rw [HN.out]; show (if knB s = true then _ else _) = _; rw [if_pos HB.out]
      rw [HG.out]
      obtain ⟨md, HM⟩ : ∃ md, Hid (mdO s = md) := ⟨_, rfl⟩
      clear hS hl hs hk ho HREC h8 h9 h10 h11
      rw [HM.out] at HMA HMD ⊢
      go_enter Try.func173, Try.ntmps173
      go_wp2_with (first
        | (go_at_call 191; refine (known_any base X M s s.l sv _ HSX.out.sw H8.out).mono ?_; rintro e w1 ⟨rfl, rfl⟩; rw [HB.out])
        | (go_at_call 192; refine (HMA.out _ HSX.out.sw).mono ?_; rintro e w2 ⟨rfl, h2⟩; have H2 : Hid _ := h2; clear h2)
        | (go_at_call 169; refine (HRC.out s sv md _ (HSX.out.sw.below H2.out) HL.out HMD.out).mono ?_; rintro e w3 ⟨rfl, sv3, h3, k3⟩; have H3 : Hid _ := h3; have K3 : Hid _ := k3; clear h3 k3))
      go_ret
      exact ⟨rfl, _, H3.out, (HSX.out.kz.next H2.out HS.out.bw).trans K3.out⟩
    | false =>
      have HG : Hid (telS s o = ({ s with l := s.l ++ [o], now := some s.l.length }, some s.l.length)) := show _ = _ by unfold telS; rw [HN.out]; show (if knB s = true then _ else _) = _; rw [if_neg (by rw [HB.out]; decide)]
      rw [HG.out]
      have HO : Hid (isP o.kd = false) := show _ = _ by rw [ho]; rfl
      clear hS hl hs hk ho HREC HRC
      go_enter Try.func173, Try.ntmps173
      go_wp2_with (first
        | (go_at_call 191; refine (known_any base X M s s.l sv _ HSX.out.sw H8.out).mono ?_; rintro e w1 ⟨rfl, rfl⟩; rw [HB.out])
        | (go_at_call 174; refine (lay_any base X M s s.l sv o _ HSX.out.sw HL.out).mono ?_; rintro e w2 ⟨rfl, sv2, h2, k2⟩; have H2 : Hid _ := h2; have K2 : Hid _ := k2; have y14 : w2.cell? ⟨X, 14, none⟩ = some (.int .i64 (oI s.now)) := h2.xb.cell (i := 14) (by omega); rw [HN.out, oI_none] at y14; have yf := h2.xb.frozen; have yl := h2.xb.lt; clear h2 k2))
      go_ret
      exact ⟨rfl, _, (H2.out.setNow (some s.l.length)).other o HO.out, (HSX.out.kz.trans K2.out).setIn (.inl rfl) HS.out.bX _ _⟩
end Go.Proofs.Ytmnifblbacgeoab
