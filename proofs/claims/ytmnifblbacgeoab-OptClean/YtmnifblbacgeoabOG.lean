import Derived.Test.YtmnifblbacgeoabOF
namespace Go.Proofs.Ytmnifblbacgeoab
open Go.RowKit
open Go.Maps
set_option maxRecDepth 100000
set_option linter.unusedVariables false
set_option linter.unusedSimpArgs false

def endO (o : ON) : ON := if o.kd = 13 then ⟨14, o.w, 0, 0, 0, o.k, o.n⟩ else ⟨15, 0, 0, 0, 0, o.k, o.n⟩
def askS (s : SE) (o : ON) : SE × Option Nat :=
  if isC s.l o.a = false then ({ s with l := s.l ++ [o] }, some s.l.length)
  else if (s.l.getD o.a onD).k = 0 then (s, none)
  else ({ s with l := s.l ++ [endO o], lft := true }, some s.l.length)
structure SY (w W : World) (base X M : Nat) (s : SE) (ml : List ON) (sv0 sv : Value) (o : ON) (E : Nat) (x : ON) : Prop where
  sx : SX w W base X M s ml sv0 sv o
  e : W.heap[E]? = some (.cells #[.int .i64 x.kd, .int .i64 x.w, .int .i64 x.a, .int .i64 x.b, .int .i64 x.c, .int .u32 x.k, .int .i64 x.n] 67)
theorem SX.more {w W : World} {base X M : Nat} {s : SE} {ml : List ON} {sv0 sv : Value} {o : ON} (h : SX w W base X M s ml sv0 sv o) (x : ON) (hb : base ≤ w.heap.size) : SY w (W.alloc (.cells #[.int .i64 x.kd, .int .i64 x.w, .int .i64 x.a, .int .i64 x.b, .int .i64 x.c, .int .u32 x.k, .int .i64 x.n] 67)) base X M s ml sv0 sv o W.heap.size x :=
  ⟨h.below ((Below.refl _ _).alloc (Nat.le_refl _) _) hb, heap_alloc_last _ _⟩
theorem SX.setNew {w W : World} {base X M : Nat} {s s0 : SE} {ml ml0 : List ON} {sv : Value} {o : ON} (h : SX w W base X M s ml sv sv o) (hS : SW w base X M s0 ml0 sv) {B : Nat} (hB : w.heap.size < B) (i : Nat) (v : Value) : SX w (W.setCell ⟨B, i, none⟩ v) base X M s ml sv sv o :=
  ⟨h.sw.keep (blk_other (by have := hS.xb.lt; omega) v) (blk_other (by have := hS.ltM; omega) v) (fun g hg => blk_other (by have := (hS.ow hg).2.2; omega) v) (by simp), (blk_other (by omega) v).trans h.bx, h.kz.setIn (.inr (by omega)) (by have := hS.bw; omega) _ _⟩
set_option maxHeartbeats 2000000 in
theorem ask_any (base X M : Nat) (s : SE) (ml : List ON) (sv : Value) (o : ON) (w : World) (hS : SW w base X M s ml sv) (hlen : s.l.length < 100000) (ha : o.a < s.l.length) :
    Calls Try.prog 172 #[.pointer (some ⟨X, 0, none⟩), .agg #[.int .i64 o.kd, .int .i64 o.w, .int .i64 o.a, .int .i64 o.b, .int .i64 o.c, .int .u32 o.k, .int .i64 o.n]] w fun e w' => e = .returned (.int .i64 (oI (askS s o).2)) ∧ ∃ sv', SW w' base X M (askS s o).1 ml sv' ∧ Kz base X M sv w sv' w' := by
  have HS : Hid _ := hS
  have HL : Hid (s.l.length < 100000) := hlen
  have HA : Hid (o.a < s.l.length) := ha
  have lX := hS.xb.lt
  have lX1 := Nat.lt_succ_of_lt lX
  have neX : X ≠ w.heap.size := by omega
  have HSX : Hid _ := SX.start hS o
  obtain ⟨C, HC⟩ : ∃ C, Hid (isC s.l o.a = C) := ⟨_, rfl⟩
  have ARM : True := trivial
  cases C with
  | false =>
    have HG : Hid (askS s o = ({ s with l := s.l ++ [o] }, some s.l.length)) := show _ = _ by unfold askS; rw [if_pos HC.out]
    rw [HG.out]
    clear hS hlen ha
    go_enter Try.func172, Try.ntmps172
    go_wp2_with (first
      | (go_at_call 187; refine (isConst_any base X M s ml sv o.a _ HSX.out.sw HA.out).mono ?_; rintro e w1 ⟨rfl, rfl⟩; rw [HC.out])
      | (go_at_call 174; refine (lay_any base X M s ml sv o _ HSX.out.sw HL.out).mono ?_; rintro e w2 ⟨rfl, sv2, h2, k2⟩; have H2 : Hid _ := h2; have K2 : Hid _ := k2; clear h2 k2))
    go_ret
    exact ⟨rfl, _, H2.out, HSX.out.kz.trans K2.out⟩
  | true =>
    obtain ⟨g, cap, hsv, lg, hcap, hc⟩ := owns_at hS.o (by omega)
    have c0 : w.cell? ⟨X, 0, none⟩ = some (.slice (some ⟨g, 0, none⟩) s.l.length cap) := hsv ▸ hS.xb.cell (i := 0) (by omega)
    have m0 := hc o.a 5 ha (by omega)
    clear hsv
    simp only [onC] at m0
    have i0 : (0 : Int) ≤ (o.a : Int) := by omega
    have i1 : (o.a : Int) < (s.l.length : Int) := by omega
    have lg1 := Nat.lt_succ_of_lt lg
    have neg : g ≠ w.heap.size := by omega
    obtain ⟨K, HK⟩ : ∃ K, Hid ((s.l.getD o.a onD).k = K) := ⟨_, rfl⟩
    rw [HK.out] at m0
    by_cases h0 : K = 0
    · have HG : Hid (askS s o = (s, none)) := show _ = _ by unfold askS; rw [if_neg (by rw [HC.out]; decide), if_pos (HK.out.trans h0)]
      rw [HG.out]
      subst h0
      clear hS hlen ha hc hcap
      go_enter Try.func172, Try.ntmps172
      go_upto_region 3 with (go_at_call 187; refine (isConst_any base X M s ml sv o.a _ HSX.out.sw HA.out).mono ?_; rintro e w1 ⟨rfl, rfl⟩; rw [HC.out])
      go_quiet (fail)
      go_wp2
      go_ret
      exact ⟨rfl, _, HS.out.below (by (repeat first | with_reducible exact Below.refl _ _ | with_reducible exact Below.refl _ _ | with_reducible refine Below.drew ?_ | with_reducible refine below_drewN ?_ _ | with_reducible refine Below.alloc ?_ (by first | (simp; done) | (simp; omega) | omega) _ | with_reducible refine Below.setCell ?_ (by first | (simp; done) | (simp; omega) | omega) _)), Kz.of_below (by (repeat first | with_reducible exact Below.refl _ _ | with_reducible exact Below.refl _ _ | with_reducible refine Below.drew ?_ | with_reducible refine below_drewN ?_ _ | with_reducible refine Below.alloc ?_ (by first | (simp; done) | (simp; omega) | omega) _ | with_reducible refine Below.setCell ?_ (by first | (simp; done) | (simp; omega) | omega) _)) HS.out.bw⟩
    · have HG : Hid (askS s o = ({ s with l := s.l ++ [endO o], lft := true }, some s.l.length)) := show _ = _ by unfold askS; rw [if_neg (by rw [HC.out]; decide), if_neg (by rw [HK.out]; exact h0)]
      rw [HG.out]
      have hK : ¬ (K : Int) = 0 := by omega
      have dK : ((K : Int) == 0) = false := by simpa using hK
      have x15 := hS.xb.frozen
      have c15 : w.cell? ⟨X, 15, none⟩ = some (.bool s.lft) := hS.xb.cell (i := 15) (by omega)
      clear hS hlen ha hc hcap h0
      go_enter Try.func172, Try.ntmps172
      go_upto_region 3 with (go_at_call 187; refine (isConst_any base X M s ml sv o.a _ HSX.out.sw HA.out).mono ?_; rintro e w1 ⟨rfl, rfl⟩; rw [HC.out])
      go_quiet (fail)
      go_upto_region 6 with fail
      refine wp_gen (fun W' => SX w W' base X M { s with lft := true } ml sv sv o) (by exact (HSX.out.drewN _ HS.out.bw).left true lX) ?_
      intro W hX
      have HX : Hid _ := hX
      have kl := row_lt hX.bx
      have k0 := row_cell hX.bx 0
      have k1 := row_cell hX.bx 1
      have k2 := row_cell hX.bx 2
      have k3 := row_cell hX.bx 3
      have k4 := row_cell hX.bx 4
      have k5 := row_cell hX.bx 5
      have k6 := row_cell hX.bx 6
      clear hX m0 c0 x15 c15 i1 lX1 lg1 neg dK hK
      go_upto_region 7 with fail
      refine wp_gen (fun W' => SY w W' base X M { s with lft := true } ml sv sv o W.heap.size ⟨15, 0, 0, 0, 0, o.k, o.n⟩) (HX.out.more ⟨15, 0, 0, 0, 0, o.k, o.n⟩ HS.out.bw) ?_
      clear k0 k1 k2 k3 k4 k5 k6 kl
      intro V hV
      have HV : Hid _ := hV
      have kl := row_lt hV.sx.bx
      have k0 := row_cell hV.sx.bx 0
      have k1 := row_cell hV.sx.bx 1
      have k2 := row_cell hV.sx.bx 2
      have k3 := row_cell hV.sx.bx 3
      have k4 := row_cell hV.sx.bx 4
      have k5 := row_cell hV.sx.bx 5
      have k6 := row_cell hV.sx.bx 6
      have el := row_lt hV.e
      have ef := row_fr hV.e
      have e0 := row_cell hV.e 0
      have e1 := row_cell hV.e 1
      have e2 := row_cell hV.e 2
      have e3 := row_cell hV.e 3
      have e4 := row_cell hV.e 4
      have e5 := row_cell hV.e 5
      have e6 := row_cell hV.e 6
      have HNE : Hid (w.heap.size < W.heap.size) := row_lt HX.out.bx
      have ne1 : W.heap.size ≠ w.heap.size := by have := HNE.out; omega
      clear hV
      by_cases h13 : o.kd = 13
      · have HE : Hid (endO o = ⟨14, o.w, 0, 0, 0, o.k, o.n⟩) := if_pos h13
        have d13 : ((o.kd : Int) == 13) = true := by rw [h13]; rfl
        have i13 : (o.kd : Int) = 13 := by omega
        clear h13
        rw [i13] at k0
        go_upto_region 8 with fail
        go_region
        all_goals
          go_wp2_with (go_at_call 174; refine (lay_any base X M { s with lft := true } ml sv (⟨14, o.w, 0, 0, 0, o.k, o.n⟩ : ON) _ (SX.sw (show SX w _ base X M { s with lft := true } ml sv sv o from (by (repeat first | with_reducible exact HV.out.sx | with_reducible refine SX.setNew ?_ HS.out HNE.out _ _ | with_reducible refine SX.drew ?_ HS.out.bw | with_reducible refine SX.drewN ?_ _ HS.out.bw)))) HL.out).mono ?_; rintro e w2 ⟨rfl, sv2, h2, k2⟩; have H2 : Hid _ := h2; have K2 : Hid _ := k2; clear h2 k2)
          go_ret
          exact ⟨rfl, _, by rw [HE.out]; exact H2.out, (SX.kz (show SX w _ base X M { s with lft := true } ml sv sv o from (by (repeat first | with_reducible exact HV.out.sx | with_reducible refine SX.setNew ?_ HS.out HNE.out _ _ | with_reducible refine SX.drew ?_ HS.out.bw | with_reducible refine SX.drewN ?_ _ HS.out.bw)))).trans K2.out⟩
      · have HE : Hid (endO o = ⟨15, 0, 0, 0, 0, o.k, o.n⟩) := if_neg h13
        have i13 : ¬ (o.kd : Int) = 13 := by omega
        have d13 : ((o.kd : Int) == 13) = false := by simpa using i13
        clear h13
        go_wp2_with (go_at_call 174; refine (lay_any base X M { s with lft := true } ml sv (⟨15, 0, 0, 0, 0, o.k, o.n⟩ : ON) _ HV.out.sx.sw HL.out).mono ?_; rintro e w2 ⟨rfl, sv2, h2, k2⟩; have H2 : Hid _ := h2; have K2 : Hid _ := k2; clear h2 k2)
        go_ret
        exact ⟨rfl, _, by rw [HE.out]; exact H2.out, HV.out.sx.kz.trans K2.out⟩
end Go.Proofs.Ytmnifblbacgeoab
