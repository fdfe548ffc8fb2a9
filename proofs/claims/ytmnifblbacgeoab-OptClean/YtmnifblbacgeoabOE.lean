import Derived.Test.YtmnifblbacgeoabOD
namespace Go.Proofs.Ytmnifblbacgeoab
open Go.RowKit
open Go.Maps
set_option maxRecDepth 100000
set_option linter.unusedVariables false
set_option linter.unusedSimpArgs false

theorem se_sl (sv : Value) (M : Nat) (s : SE) (i : Nat) (h : i < 12) : seF sv M s (2 + i) = .int .i64 (oI (s.sl i)) := by
  unfold seF
  rw [if_neg (by omega), if_neg (by omega), if_pos (by omega), show 2 + i - 2 = i by omega]
theorem SW.setSl {w : World} {base X M : Nat} {s : SE} {ml : List ON} {sv : Value} (h : SW w base X M s ml sv) (i : Nat) (v : Option Nat) (hi : i < 12) : SW (w.setCell ⟨X, 2 + i, none⟩ (.int .i64 (oI v))) base X M { s with sl := upd s.sl i v } ml sv :=
  h.setX _ _ _ rfl fun j hj => by
    unfold seF upd
    by_cases e : j = 2 + i
    · subst e
      rw [if_pos rfl, if_neg (by omega), if_neg (by omega), if_pos (by omega)]
      simp
    · rw [if_neg e]
      have : j - 2 ≠ i ∨ j < 2 := by omega
      rcases this with e2 | e2
      · simp only [if_neg e2]
      · rcases (by omega : j = 0 ∨ j = 1) with rfl | rfl <;> rfl
theorem SW.setNow {w : World} {base X M : Nat} {s : SE} {ml : List ON} {sv : Value} (h : SW w base X M s ml sv) (v : Option Nat) : SW (w.setCell ⟨X, 14, none⟩ (.int .i64 (oI v))) base X M { s with now := v } ml sv :=
  h.setX _ _ _ rfl fun j hj => by
    unfold seF
    by_cases e : j = 14
    · subst e; rfl
    · rw [if_neg e]; simp [e]
theorem SW.setLeft {w : World} {base X M : Nat} {s : SE} {ml : List ON} {sv : Value} (h : SW w base X M s ml sv) (v : Bool) : SW (w.setCell ⟨X, 15, none⟩ (.bool v)) base X M { s with lft := v } ml sv :=
  h.setX _ _ _ rfl fun j hj => by
    unfold seF
    by_cases e : j = 15
    · subst e; rfl
    · rw [if_neg e]
      by_cases h14 : j = 14
      · subst h14; rfl
      · have : j < 14 := by omega
        simp [this]
/-- Nothing of a world is lost but what is told. -/
theorem oI_none : oI none = -1 := rfl
theorem oI_some (n : Nat) : oI (some n) = n := rfl
theorem oI_eq (x : Option Nat) : (oI x == -1) = x.isNone := by
  cases x with
  | none => rfl
  | some n => show ((n : Int) == -1) = false; simp
theorem SW.keepNew {w W W2 : World} {base X M : Nat} {s : SE} {ml : List ON} {sv sv2 : Value} (h : SW w base X M s ml sv) (k : Kz base X M sv W sv2 W2) (i : Nat) (h1 : w.heap.size ≤ i) (h2 : i < W.heap.size) : W2.heap[i]? = W.heap[i]? :=
  k.blk i h2 (by have := h.xb.lt; omega) (by have := h.ltM; omega) (fun e => by have := (h.ow e).2.2; omega)
/-- What get answers, and leaves. -/
def getS (s : SE) (o : ON) : SE × Option Nat :=
  match s.sl o.w with
  | some v => (s, some v)
  | none => ({ s with l := s.l ++ [o], sl := upd s.sl o.w (some s.l.length) }, some s.l.length)
set_option maxHeartbeats 2000000 in
theorem get_any (base X M : Nat) (s : SE) (ml : List ON) (sv : Value) (o : ON) (w : World) (hS : SW w base X M s ml sv) (hlen : s.l.length < 100000) (hw : o.w < 12) :
    Calls Try.prog 170 #[.pointer (some ⟨X, 0, none⟩), .agg #[.int .i64 o.kd, .int .i64 o.w, .int .i64 o.a, .int .i64 o.b, .int .i64 o.c, .int .u32 o.k, .int .i64 o.n]] w fun e w' => e = .returned (.int .i64 (oI (getS s o).2)) ∧ ∃ sv', SW w' base X M (getS s o).1 ml sv' ∧ Kz base X M sv w sv' w' := by
  have HS : Hid _ := hS
  have HL : Hid (s.l.length < 100000) := hlen
  have HW : Hid (o.w < 12) := hw
  have c1 := hS.xb.cell (i := 2 + o.w) (by omega)
  rw [se_sl _ _ _ _ hw] at c1
  have lX := hS.xb.lt
  have lX1 := Nat.lt_succ_of_lt lX
  have neX : X ≠ w.heap.size := by omega
  have w0 : (0 : Int) ≤ (o.w : Int) := by omega
  have w1 : (o.w : Int) < 12 := by omega
  have b1 : Below w.heap.size w (w.alloc (.cells #[.int .i64 o.kd, .int .i64 o.w, .int .i64 o.a, .int .i64 o.b, .int .i64 o.c, .int .u32 o.k, .int .i64 o.n] 67)) := (Below.refl _ _).alloc (Nat.le_refl _) _
  have HB1 : Hid _ := b1
  have HS1 : Hid _ := hS.below b1
  obtain ⟨S, HSL⟩ : ∃ S, Hid (s.sl o.w = S) := ⟨_, rfl⟩
  rw [HSL.out] at c1
  cases S with
  | some v =>
    have HG : Hid (getS s o = (s, some v)) := show _ = _ by unfold getS; rw [HSL.out]
    rw [HG.out]
    have v0 : (0 : Int) ≤ (v : Int) := by omega
    have dv : ((v : Int) == -1) = false := by simp
    rw [oI_some] at c1
    clear hS hlen hw b1
    go_enter Try.func170, Try.ntmps170
    go_upto_region 1 with fail
    go_quiet (fail)
    go_wp2
    go_upto_region 3 with fail
    go_quiet (fail)
    go_wp2
    go_ret
    exact ⟨rfl, _, HS.out.below (by (repeat first | with_reducible exact Below.refl _ _ | with_reducible exact Below.refl _ _ | with_reducible refine Below.drew ?_ | with_reducible refine below_drewN ?_ _ | with_reducible refine Below.alloc ?_ (by first | (simp; done) | (simp; omega) | omega) _ | with_reducible refine Below.setCell ?_ (by first | (simp; done) | (simp; omega) | omega) _)), Kz.of_below (by (repeat first | with_reducible exact Below.refl _ _ | with_reducible exact Below.refl _ _ | with_reducible refine Below.drew ?_ | with_reducible refine below_drewN ?_ _ | with_reducible refine Below.alloc ?_ (by first | (simp; done) | (simp; omega) | omega) _ | with_reducible refine Below.setCell ?_ (by first | (simp; done) | (simp; omega) | omega) _)) HS.out.bw⟩
  | none =>
    have HG : Hid (getS s o = ({ s with l := s.l ++ [o], sl := upd s.sl o.w (some s.l.length) }, some s.l.length)) := show _ = _ by unfold getS; rw [HSL.out]
    rw [HG.out]
    rw [oI_none] at c1
    have HBX : Hid _ := heap_alloc_last w (.cells #[.int .i64 o.kd, .int .i64 o.w, .int .i64 o.a, .int .i64 o.b, .int .i64 o.c, .int .u32 o.k, .int .i64 o.n] 67)
    have fX := hS.xb.frozen
    clear hS hlen hw b1
    go_enter Try.func170, Try.ntmps170
    go_upto_region 1 with fail
    go_quiet (fail)
    go_upto_region 2 with fail
    go_region_with (go_at_call 174; refine (lay_any base X M s ml sv o _ (HS.out.below (by (repeat first | with_reducible exact Below.refl _ _ | with_reducible exact Below.refl _ _ | with_reducible refine Below.drew ?_ | with_reducible refine below_drewN ?_ _ | with_reducible refine Below.alloc ?_ (by first | (simp; done) | (simp; omega) | omega) _ | with_reducible refine Below.setCell ?_ (by first | (simp; done) | (simp; omega) | omega) _))) HL.out).mono ?_; rintro e w2 ⟨rfl, sv2, h2, k2⟩; have H2 : Hid _ := h2; have K2 : Hid _ := k2; have hk := (HS.out.keepNew k2 w.heap.size (Nat.le_refl _) (by simp)).trans HBX.out; have kl := row_lt hk; have k0 := row_cell hk 0; have k1 := row_cell hk 1; have k5 := row_cell hk 5; have x1 := h2.xb.cell (i := 2 + o.w) (by have := HW.out; omega); have xl := h2.xb.lt; have xf := h2.xb.frozen; clear hk h2 k2)
    all_goals
      have HF : Hid (SW (w2.setCell ⟨X, 2 + o.w, none⟩ (.int .i64 s.l.length)) base X M { s with l := s.l ++ [o], sl := upd s.sl o.w (some s.l.length) } ml sv2) := H2.out.setSl o.w (some s.l.length) HW.out
      have HK : Hid (Kz base X M sv w sv2 (w2.setCell ⟨X, 2 + o.w, none⟩ (.int .i64 s.l.length))) := ((Kz.of_below (show Below w.heap.size w _ from (by first | exact below_drewN HB1.out _ | exact HB1.out)) HS.out.bw).trans K2.out).setIn (.inl rfl) HS.out.bX _ _
      have nXw : w.heap.size ≠ X := by omega
      clear K2 H2
      go_upto_region 3 with fail
      go_quiet (fail)
      go_wp2
      go_ret
      exact ⟨rfl, _, HF.out.below (by (repeat first | with_reducible exact Below.refl _ _ | with_reducible exact Below.refl _ _ | with_reducible refine Below.drew ?_ | with_reducible refine below_drewN ?_ _ | with_reducible refine Below.alloc ?_ (by first | (simp; done) | (simp; omega) | omega) _ | with_reducible refine Below.setCell ?_ (by first | (simp; done) | (simp; omega) | omega) _)), HK.out.next (by (repeat first | with_reducible exact Below.refl _ _ | with_reducible exact Below.refl _ _ | with_reducible refine Below.drew ?_ | with_reducible refine below_drewN ?_ _ | with_reducible refine Below.alloc ?_ (by first | (simp; done) | (simp; omega) | omega) _ | with_reducible refine Below.setCell ?_ (by first | (simp; done) | (simp; omega) | omega) _)) HS.out.bw⟩
end Go.Proofs.Ytmnifblbacgeoab
