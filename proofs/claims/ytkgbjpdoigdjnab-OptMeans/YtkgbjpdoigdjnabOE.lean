import Derived.Test.YtkgbjpdoigdjnabOD
set_option linter.unusedVariables false
set_option linter.unusedSimpArgs false
set_option maxHeartbeats 2000000
namespace Go.Proofs.Ytkgbjpdoigdjnab
open Go.RowKit
open Go.Maps
set_option maxRecDepth 100000
theorem se_sl (sv : Value) (M : Nat) (s : SE) (i : Nat) (h : i < 12) : seF sv M s (2 + i) = .int .i64 (oI (s.sl i)) := by
 unfold seF
 rw [if_neg (by omega), if_neg (by omega), if_pos (by omega), show 2 + i - 2 = i by omega]
theorem SW.setSl {w : World} {base X M : Nat} {s : SE} {ml : List ON} {sv : Value} (h : SW w base X M s ml sv) (i : Nat) (v : Option Nat) (hi : i < 12) : SW (w.setCell ⟨X, 2 + i, none⟩ (.int .i64 (oI v))) base X M { s with sl := upd s.sl i v } ml sv :=
 h.setX _ _ _ rfl fun j hj => by
  unfold seF upd
  by_cases e : j = 2 + i
  ·subst e
   rw [if_pos rfl, if_neg (by omega), if_neg (by omega), if_pos (by omega)]
   simp
  ·rw [if_neg e]
   have : j - 2 ≠ i ∨ j < 2 := by omega
   rcases this with e2 | e2
   ·simp only [if_neg e2]
   ·rcases (by omega : j = 0 ∨ j = 1) with rfl | rfl <;> rfl
theorem SW.setNow {w : World} {base X M : Nat} {s : SE} {ml : List ON} {sv : Value} (h : SW w base X M s ml sv) (v : Option Nat) : SW (w.setCell ⟨X, 14, none⟩ (.int .i64 (oI v))) base X M { s with now := v } ml sv :=
 h.setX _ _ _ rfl fun j hj => by
  unfold seF
  by_cases e : j = 14
  ·subst e; rfl
  ·rw [if_neg e]; simp [e]
theorem SW.setLeft {w : World} {base X M : Nat} {s : SE} {ml : List ON} {sv : Value} (h : SW w base X M s ml sv) (v : Bool) : SW (w.setCell ⟨X, 15, none⟩ (.bool v)) base X M { s with lft := v } ml sv :=
 h.setX _ _ _ rfl fun j hj => by
  unfold seF
  by_cases e : j = 15
  ·subst e; rfl
  ·rw [if_neg e]
   by_cases h14 : j = 14
   ·subst h14; rfl
   ·have : j < 14 := by omega
    simp [this]
theorem oI_none : oI none = -1 := rfl
theorem oI_some (n : Nat) : oI (some n) = n := rfl
theorem SW.keepNew {w W W2 : World} {base X M : Nat} {s : SE} {ml : List ON} {sv sv2 : Value} (h : SW w base X M s ml sv) (k : Kz base X M sv W sv2 W2) (i : Nat) (h1 : w.heap.size ≤ i) (h2 : i < W.heap.size) : W2.heap[i]? = W.heap[i]? :=
 k.blk i h2 (by have := h.xb.lt; omega) (by have := h.ltM; omega) (fun e => by have := (h.ow e).2.2; omega)
def getS (s : SE) (o : ON) : SE × Option Nat :=
 match s.sl o.w with
 | some v => (s, some v)
 | none => ({ s with l := s.l ++ [o], sl := upd s.sl o.w (some s.l.length) }, some s.l.length)
theorem get_any (base X M : Nat) (s : SE) (ml : List ON) (sv : Value) (o : ON) (w : World) (hS : SW w base X M s ml sv) (hlen : s.l.length < 100000) (hw : o.w < 12) :
  Calls Try.prog 170 #[.pointer (some ⟨X, 0, none⟩), .agg #[.int .i64 o.kd, .int .i64 o.w, .int .i64 o.a, .int .i64 o.b, .int .i64 o.c, .int .u32 o.k, .int .i64 o.n]] w fun e w' => e = .returned (.int .i64 (oI (getS s o).2)) ∧ ∃ sv', SW w' base X M (getS s o).1 ml sv' ∧ Kz base X M sv w sv' w' := by
 have HS : Hid _ := hS
 have HL : Hid (s.l.length < 100000) := hlen
 have HW : Hid (o.w < 12) := hw
 have c1 := hS.xb.cell (i := 2 + o.w) (by omega)
 rw [se_sl _ _ _ _ hw] at c1
 have lX := hS.xb.lt
 have lX1 := Nat.lt_succ_of_lt lX
 have neX : X ≠ w.heap.size := by omega
 have w0 : (0 : Int) ≤ (o.w : Int) := by omega
 have w1 : (o.w : Int) < 12 := by omega
 have b1 : Below w.heap.size w (w.alloc (.cells #[.int .i64 o.kd, .int .i64 o.w, .int .i64 o.a, .int .i64 o.b, .int .i64 o.c, .int .u32 o.k, .int .i64 o.n] 67)) := (Below.refl _ _).alloc (Nat.le_refl _) _
 have HB1 : Hid _ := b1
 have HS1 : Hid _ := hS.below b1
 obtain ⟨S, HSL⟩ : ∃ S, Hid (s.sl o.w = S) := ⟨_, rfl⟩
 rw [HSL.out] at c1
 cases S with
 | some v =>
  have HG : Hid (getS s o = (s, some v)) := show _ = _ by unfold getS; rw [HSL.out]
  rw [HG.out]
  have v0 : (0 : Int) ≤ (v : Int) := by omega
  have dv : ((v : Int) == -1) = false := by simp
  rw [oI_some] at c1
  clear hS hlen hw b1
  go_enter Try.func170, Try.ntmps170
  go_upto_region 1 with fail
  go_quiet (fail)
  go_wp2
  go_upto_region 3 with fail
  go_quiet (fail)
  go_wp2
  go_ret
  exact ⟨rfl, _, HS.out.below (by (repeat first | with_reducible exact Below.refl _ _ | with_reducible exact Below.refl _ _ | with_reducible refine Below.drew ?_ | with_reducible refine below_drewN ?_ _ | with_reducible refine Below.alloc ?_ (by first | (simp; done) | (simp; omega) | omega) _ | with_reducible refine Below.setCell ?_ (by first | (simp; done) | (simp; omega) | omega) _)), Kz.of_below (by (repeat first | with_reducible exact Below.refl _ _ | with_reducible exact Below.refl _ _ | with_reducible refine Below.drew ?_ | with_reducible refine below_drewN ?_ _ | with_reducible refine Below.alloc ?_ (by first | (simp; done) | (simp; omega) | omega) _ | with_reducible refine Below.setCell ?_ (by first | (simp; done) | (simp; omega) | omega) _)) HS.out.bw⟩
 | none =>
  have HG : Hid (getS s o = ({ s with l := s.l ++ [o], sl := upd s.sl o.w (some s.l.length) }, some s.l.length)) := show _ = _ by unfold getS; rw [HSL.out]
  rw [HG.out]
  rw [oI_none] at c1
  have HBX : Hid _ := heap_alloc_last w (.cells #[.int .i64 o.kd, .int .i64 o.w, .int .i64 o.a, .int .i64 o.b, .int .i64 o.c, .int .u32 o.k, .int .i64 o.n] 67)
  have fX := hS.xb.frozen
  clear hS hlen hw b1
  go_enter Try.func170, Try.ntmps170
  go_upto_region 1 with fail
  go_quiet (fail)
  go_upto_region 2 with fail
  go_region_with (go_at_call 174; refine (lay_any base X M s ml sv o _ (HS.out.below (by (repeat first | with_reducible exact Below.refl _ _ | with_reducible exact Below.refl _ _ | with_reducible refine Below.drew ?_ | with_reducible refine below_drewN ?_ _ | with_reducible refine Below.alloc ?_ (by first | (simp; done) | (simp; omega) | omega) _ | with_reducible refine Below.setCell ?_ (by first | (simp; done) | (simp; omega) | omega) _))) HL.out).mono ?_; rintro e w2 ⟨rfl, sv2, h2, k2⟩; have H2 : Hid _ := h2; have K2 : Hid _ := k2; have hk := (HS.out.keepNew k2 w.heap.size (Nat.le_refl _) (by simp)).trans HBX.out; have kl := row_lt hk; have k0 := row_cell hk 0; have k1 := row_cell hk 1; have k5 := row_cell hk 5; have x1 := h2.xb.cell (i := 2 + o.w) (by have := HW.out; omega); have xl := h2.xb.lt; have xf := h2.xb.frozen; clear hk h2 k2)
  all_goals
   have HF : Hid (SW (w2.setCell ⟨X, 2 + o.w, none⟩ (.int .i64 s.l.length)) base X M { s with l := s.l ++ [o], sl := upd s.sl o.w (some s.l.length) } ml sv2) := H2.out.setSl o.w (some s.l.length) HW.out
   have HK : Hid (Kz base X M sv w sv2 (w2.setCell ⟨X, 2 + o.w, none⟩ (.int .i64 s.l.length))) := ((Kz.of_below (show Below w.heap.size w _ from (by first | exact below_drewN HB1.out _ | exact HB1.out)) HS.out.bw).trans K2.out).setIn (.inl rfl) HS.out.bX _ _
   have nXw : w.heap.size ≠ X := by omega
   clear K2 H2
   go_upto_region 3 with fail
   go_quiet (fail)
   go_wp2
   go_ret
   exact ⟨rfl, _, HF.out.below (by (repeat first | with_reducible exact Below.refl _ _ | with_reducible exact Below.refl _ _ | with_reducible refine Below.drew ?_ | with_reducible refine below_drewN ?_ _ | with_reducible refine Below.alloc ?_ (by first | (simp; done) | (simp; omega) | omega) _ | with_reducible refine Below.setCell ?_ (by first | (simp; done) | (simp; omega) | omega) _)), HK.out.next (by (repeat first | with_reducible exact Below.refl _ _ | with_reducible exact Below.refl _ _ | with_reducible refine Below.drew ?_ | with_reducible refine below_drewN ?_ _ | with_reducible refine Below.alloc ?_ (by first | (simp; done) | (simp; omega) | omega) _ | with_reducible refine Below.setCell ?_ (by first | (simp; done) | (simp; omega) | omega) _)) HS.out.bw⟩
theorem wp_gen {P : Program} {c : Code} {Q : Exit → Act → World → Prop} {a : Act} {W : World} (p : World → Prop) (h : p W) (k : ∀ w', p w' → Code.wp P c Q a w') : Code.wp P c Q a W := k W h
structure SX (w W : World) (base X M : Nat) (s : SE) (ml : List ON) (sv0 sv : Value) (o : ON) : Prop where
 sw : SW W base X M s ml sv
 bx : W.heap[w.heap.size]? = some (.cells #[.int .i64 o.kd, .int .i64 o.w, .int .i64 o.a, .int .i64 o.b, .int .i64 o.c, .int .u32 o.k, .int .i64 o.n] 67)
 kz : Kz base X M sv0 w sv W
theorem SX.below {w W W' : World} {base X M : Nat} {s : SE} {ml : List ON} {sv0 sv : Value} {o : ON} (h : SX w W base X M s ml sv0 sv o) (k : Below W.heap.size W W') (hb : base ≤ w.heap.size) : SX w W' base X M s ml sv0 sv o :=
 ⟨h.sw.below k, (k.block _ (row_lt h.bx)).trans h.bx, h.kz.next k hb⟩
theorem SX.start {w : World} {base X M : Nat} {s : SE} {ml : List ON} {sv : Value} (h : SW w base X M s ml sv) (o : ON) : SX w (w.alloc (.cells #[.int .i64 o.kd, .int .i64 o.w, .int .i64 o.a, .int .i64 o.b, .int .i64 o.c, .int .u32 o.k, .int .i64 o.n] 67)) base X M s ml sv sv o :=
 ⟨h.below ((Below.refl _ _).alloc (Nat.le_refl _) _), heap_alloc_last _ _, Kz.of_below ((Below.refl _ _).alloc (Nat.le_refl _) _) h.bw⟩
theorem SX.drewN {w W : World} {base X M : Nat} {s : SE} {ml : List ON} {sv0 sv : Value} {o : ON} (h : SX w W base X M s ml sv0 sv o) (n : Nat) (hb : base ≤ w.heap.size) : SX w (W.drewN n) base X M s ml sv0 sv o :=
 h.below (below_drewN (Below.refl _ _) n) hb
theorem SX.drew {w W : World} {base X M : Nat} {s : SE} {ml : List ON} {sv0 sv : Value} {o : ON} (h : SX w W base X M s ml sv0 sv o) (hb : base ≤ w.heap.size) : SX w W.drew base X M s ml sv0 sv o :=
 h.below (Below.refl _ _).drew hb
theorem SX.sl {w W : World} {base X M : Nat} {s : SE} {ml : List ON} {sv0 sv : Value} {o : ON} (h : SX w W base X M s ml sv0 sv o) (i : Nat) (v : Option Nat) (hi : i < 12) (hX : X < w.heap.size) : SX w (W.setCell ⟨X, 2 + i, none⟩ (.int .i64 (oI v))) base X M { s with sl := upd s.sl i v } ml sv0 sv o :=
 ⟨h.sw.setSl i v hi, (blk_other (by omega) _).trans h.bx, h.kz.setIn (.inl rfl) h.sw.bX _ _⟩
theorem SX.now {w W : World} {base X M : Nat} {s : SE} {ml : List ON} {sv0 sv : Value} {o : ON} (h : SX w W base X M s ml sv0 sv o) (v : Option Nat) (hX : X < w.heap.size) : SX w (W.setCell ⟨X, 14, none⟩ (.int .i64 (oI v))) base X M { s with now := v } ml sv0 sv o :=
 ⟨h.sw.setNow v, (blk_other (by omega) _).trans h.bx, h.kz.setIn (.inl rfl) h.sw.bX _ _⟩
theorem SX.left {w W : World} {base X M : Nat} {s : SE} {ml : List ON} {sv0 sv : Value} {o : ON} (h : SX w W base X M s ml sv0 sv o) (v : Bool) (hX : X < w.heap.size) : SX w (W.setCell ⟨X, 15, none⟩ (.bool v)) base X M { s with lft := v } ml sv0 sv o :=
 ⟨h.sw.setLeft v, (blk_other (by omega) _).trans h.bx, h.kz.setIn (.inl rfl) h.sw.bX _ _⟩
def putS (s : SE) (o : ON) : SE × Option Nat :=
 if s.sl o.w = some o.a then (s, none) else ({ s with l := s.l ++ [o], sl := upd s.sl o.w (some o.a), now := if 8 ≤ o.w then none else s.now }, some s.l.length)
theorem oI_ne {x : Option Nat} {n : Nat} (h : ¬ x = some n) : (oI x == (n : Int)) = false := by
 cases x with
 | none => exact beq_false_of_ne (by show (-1 : Int) ≠ (n : Int); omega)
 | some m => exact beq_false_of_ne (by have : ¬ m = n := fun e => h (by rw [e]); show (m : Int) ≠ (n : Int); omega)
theorem put_any (base X M : Nat) (s : SE) (ml : List ON) (sv : Value) (o : ON) (w : World) (hS : SW w base X M s ml sv) (hlen : s.l.length < 100000) (hw : o.w < 12) :
  Calls Try.prog 171 #[.pointer (some ⟨X, 0, none⟩), .agg #[.int .i64 o.kd, .int .i64 o.w, .int .i64 o.a, .int .i64 o.b, .int .i64 o.c, .int .u32 o.k, .int .i64 o.n]] w fun e w' => e = .returned (.int .i64 (oI (putS s o).2)) ∧ ∃ sv', SW w' base X M (putS s o).1 ml sv' ∧ Kz base X M sv w sv' w' := by
 have HS : Hid _ := hS
 have HL : Hid (s.l.length < 100000) := hlen
 have HW : Hid (o.w < 12) := hw
 have c1 := hS.xb.cell (i := 2 + o.w) (by omega)
 rw [se_sl _ _ _ _ hw] at c1
 have lX := hS.xb.lt
 have lX1 := Nat.lt_succ_of_lt lX
 have neX : X ≠ w.heap.size := by omega
 have w0 : (0 : Int) ≤ (o.w : Int) := by omega
 have w1 : (o.w : Int) < 12 := by omega
 have fX := hS.xb.frozen
 by_cases hq : s.sl o.w = some o.a
 ·have HG : Hid (putS s o = (s, none)) := show _ = _ by unfold putS; rw [if_pos hq]
  rw [HG.out]
  rw [hq, oI_some] at c1
  clear hS hlen hw hq
  go_enter Try.func171, Try.ntmps171
  go_upto_region 1 with fail
  go_quiet (fail)
  go_wp2
  go_ret
  exact ⟨rfl, _, HS.out.below (by (repeat first | with_reducible exact Below.refl _ _ | with_reducible exact Below.refl _ _ | with_reducible refine Below.drew ?_ | with_reducible refine below_drewN ?_ _ | with_reducible refine Below.alloc ?_ (by first | (simp; done) | (simp; omega) | omega) _ | with_reducible refine Below.setCell ?_ (by first | (simp; done) | (simp; omega) | omega) _)), Kz.of_below (by (repeat first | with_reducible exact Below.refl _ _ | with_reducible exact Below.refl _ _ | with_reducible refine Below.drew ?_ | with_reducible refine below_drewN ?_ _ | with_reducible refine Below.alloc ?_ (by first | (simp; done) | (simp; omega) | omega) _ | with_reducible refine Below.setCell ?_ (by first | (simp; done) | (simp; omega) | omega) _)) HS.out.bw⟩
 have HG : Hid (putS s o = ({ s with l := s.l ++ [o], sl := upd s.sl o.w (some o.a), now := if 8 ≤ o.w then none else s.now }, some s.l.length)) := show _ = _ by unfold putS; rw [if_neg hq]
 rw [HG.out]
 have dq := oI_ne hq
 obtain ⟨z, HZ⟩ : ∃ z, Hid (oI (s.sl o.w) = z) := ⟨_, rfl⟩
 rw [HZ.out] at c1 dq
 have hz : ¬ z = (o.a : Int) := by simpa using dq
 clear hS hlen hw hq
 go_enter Try.func171, Try.ntmps171
 go_upto_region 1 with fail
 go_quiet (fail)
 go_upto_region 3 with fail
 go_region
 all_goals
  go_upto_region 4 with fail
  refine wp_gen (fun W' => SX w W' base X M { s with sl := upd s.sl o.w (some o.a) } ml sv sv o) (by first | exact (((SX.start HS.out o).drewN _ HS.out.bw).drew HS.out.bw).sl o.w (some o.a) HW.out lX | exact (((SX.start HS.out o).drewN _ HS.out.bw).drewN _ HS.out.bw).sl o.w (some o.a) HW.out lX | exact ((SX.start HS.out o).drewN _ HS.out.bw).sl o.w (some o.a) HW.out lX) ?_
  intro W hX
  have HX : Hid _ := hX
  have kl := row_lt hX.bx
  have k0 := row_cell hX.bx 0
  have k1 := row_cell hX.bx 1
  have k2 := row_cell hX.bx 2
  have k3 := row_cell hX.bx 3
  have k4 := row_cell hX.bx 4
  have k5 := row_cell hX.bx 5
  have k6 := row_cell hX.bx 6
  have xl := hX.sw.xb.lt
  have xf := hX.sw.xb.frozen
  have x14 := hX.sw.xb.cell (i := 14) (by omega)
  simp only [seF] at x14
  clear hX c1 fX lX1 dq hz HZ
  by_cases h8 : 8 ≤ o.w
  ·have d8 : decide ((8 : Int) ≤ (o.w : Int)) = true := decide_eq_true (by omega)
   have hi8 : (8 : Int) ≤ (o.w : Int) := by omega
   have HE : Hid ((if 8 ≤ o.w then none else s.now) = none) := if_pos h8
   clear h8
   go_wp2_with (go_at_call 174; refine (lay_any base X M { s with sl := upd s.sl o.w (some o.a), now := none } ml sv o _ (HX.out.now none lX).sw HL.out).mono ?_; rintro e w2 ⟨rfl, sv2, h2, k2⟩; have H2 : Hid _ := h2; have K2 : Hid _ := k2; clear h2 k2)
   go_ret
   exact ⟨rfl, _, by first | exact H2.out | (rw [HE.out]; exact H2.out), (HX.out.now none lX).kz.trans K2.out⟩
  ·have d8 : decide ((8 : Int) ≤ (o.w : Int)) = false := decide_eq_false (by omega)
   have hi8 : ¬ (8 : Int) ≤ (o.w : Int) := by omega
   have HE : Hid ((if 8 ≤ o.w then none else s.now) = s.now) := if_neg h8
   clear h8
   go_wp2_with (go_at_call 174; refine (lay_any base X M { s with sl := upd s.sl o.w (some o.a) } ml sv o _ HX.out.sw HL.out).mono ?_; rintro e w2 ⟨rfl, sv2, h2, k2⟩; have H2 : Hid _ := h2; have K2 : Hid _ := k2; clear h2 k2)
   go_ret
   exact ⟨rfl, _, by first | exact H2.out | (rw [HE.out]; exact H2.out), HX.out.kz.trans K2.out⟩
def knB (s : SE) : Bool := (s.sl 8).isSome && (s.sl 9).isSome && (s.sl 10).isSome && (s.sl 11).isSome && isC s.l ((s.sl 8).getD 0)
def knQ (s : SE) : Nat → Bool
 | 0 => true
 | q + 1 => knQ s q && (s.sl (8 + q)).isSome
theorem knQ_no {s : SE} {q : Nat} (h : s.sl (8 + q) = none) : ∀ p, q < p → knQ s p = false
 | 0, hp => absurd hp (Nat.not_lt_zero _)
 | p + 1, hp => by
  rcases Nat.lt_succ_iff_lt_or_eq.1 hp with h1 | rfl
  ·simp [knQ, knQ_no h p h1]
  ·simp [knQ, h]
theorem knB_eq (s : SE) : knB s = (knQ s 4 && isC s.l ((s.sl 8).getD 0)) := by simp [knB, knQ]
theorem known_any (base X M : Nat) (s : SE) (ml : List ON) (sv : Value) (w : World) (hS : SW w base X M s ml sv) (hv : ∀ v, s.sl 8 = some v → v < s.l.length) :
  Calls Try.prog 191 #[.pointer (some ⟨X, 0, none⟩)] w fun e w' => e = .returned (.bool (knB s)) ∧ w = w' := by
 have HS : Hid _ := hS
 have HV : Hid (∀ v, s.sl 8 = some v → v < s.l.length) := hv
 have lX := hS.xb.lt
 have c0 := hS.xb.cell (i := 2 + 8) (by omega)
 have c1 := hS.xb.cell (i := 2 + 9) (by omega)
 have c2 := hS.xb.cell (i := 2 + 10) (by omega)
 have c3 := hS.xb.cell (i := 2 + 11) (by omega)
 rw [se_sl _ _ _ _ (by omega)] at c0 c1 c2 c3
 obtain ⟨S0, H0⟩ : ∃ S, Hid (s.sl 8 = S) := ⟨_, rfl⟩
 rw [H0.out] at c0
 obtain ⟨S1, H1⟩ : ∃ S, Hid (s.sl 9 = S) := ⟨_, rfl⟩
 rw [H1.out] at c1
 obtain ⟨S2, H2⟩ : ∃ S, Hid (s.sl 10 = S) := ⟨_, rfl⟩
 rw [H2.out] at c2
 obtain ⟨S3, H3⟩ : ∃ S, Hid (s.sl 11 = S) := ⟨_, rfl⟩
 rw [H3.out] at c3
 simp only [Nat.reduceAdd] at c0 c1 c2 c3
 clear hS hv
 go_enter Try.func191, Try.ntmps191
 go_wp2
 go_loopw [10] (fun i' wr => ∃ j : Nat, i' = .int .i64 j ∧ j ≤ 4 ∧ knQ s j = true ∧ w = wr) (fun i _ => 4 - (intOf i).toNat)
 case atStart => exact ⟨0, rfl, by omega, rfl, rfl⟩
 case round =>
  obtain ⟨j, rfl, hj, hall, rfl⟩ := hrel
  have HA : Hid _ := hall
  clear hall
  rcases (by omega : j = 0 ∨ j = 1 ∨ j = 2 ∨ j = 3 ∨ j = 4) with rfl | rfl | rfl | rfl | rfl
  ·cases S0 with
   | none =>
    have FB : Hid (knB s = false) := show _ = _ by rw [knB_eq, knQ_no (q := 0) H0.out 4 (by omega)]; rfl
    rw [oI_none] at c0
    go_wp2
    go_ret
    exact ⟨by rw [FB.out]; rfl, rfl⟩
   | some v =>
    have dv : ((v : Int) == -1) = false := by simp
    rw [oI_some] at c0
    go_wp2
    go_round
    case rel => exact ⟨1, by go_num, by omega, by show (knQ s 0 && (s.sl 8).isSome) = true; rw [HA.out, H0.out]; rfl, by first | rfl | trivial⟩
    case measure => simp [intOf]
  ·cases S1 with
   | none =>
    have FB : Hid (knB s = false) := show _ = _ by rw [knB_eq, knQ_no (q := 1) H1.out 4 (by omega)]; rfl
    rw [oI_none] at c1
    go_wp2
    go_ret
    exact ⟨by rw [FB.out]; rfl, rfl⟩
   | some v =>
    have dv : ((v : Int) == -1) = false := by simp
    rw [oI_some] at c1
    go_wp2
    go_round
    case rel => exact ⟨2, by go_num, by omega, by show (knQ s 1 && (s.sl 9).isSome) = true; rw [HA.out, H1.out]; rfl, by first | rfl | trivial⟩
    case measure => simp [intOf]
  ·cases S2 with
   | none =>
    have FB : Hid (knB s = false) := show _ = _ by rw [knB_eq, knQ_no (q := 2) H2.out 4 (by omega)]; rfl
    rw [oI_none] at c2
    go_wp2
    go_ret
    exact ⟨by rw [FB.out]; rfl, rfl⟩
   | some v =>
    have dv : ((v : Int) == -1) = false := by simp
    rw [oI_some] at c2
    go_wp2
    go_round
    case rel => exact ⟨3, by go_num, by omega, by show (knQ s 2 && (s.sl 10).isSome) = true; rw [HA.out, H2.out]; rfl, by first | rfl | trivial⟩
    case measure => simp [intOf]
  ·cases S3 with
   | none =>
    have FB : Hid (knB s = false) := show _ = _ by rw [knB_eq, knQ_no (q := 3) H3.out 4 (by omega)]; rfl
    rw [oI_none] at c3
    go_wp2
    go_ret
    exact ⟨by rw [FB.out]; rfl, rfl⟩
   | some v =>
    have dv : ((v : Int) == -1) = false := by simp
    rw [oI_some] at c3
    go_wp2
    go_round
    case rel => exact ⟨4, by go_num, by omega, by show (knQ s 3 && (s.sl 11).isSome) = true; rw [HA.out, H3.out]; rfl, by first | rfl | trivial⟩
    case measure => simp [intOf]
  ·cases S0 with
   | none => exact absurd HA.out (by rw [knQ_no (q := 0) H0.out 4 (by omega)]; decide)
   | some v =>
    obtain ⟨C, HC⟩ : ∃ C, Hid (isC s.l v = C) := ⟨_, rfl⟩
    have FB : Hid (knB s = C) := show _ = _ by rw [knB_eq, HA.out, H0.out]; show (true && isC s.l v) = C; rw [HC.out]; rfl
    rw [oI_some] at c0
    go_wp2_with (go_at_call 187; refine (isConst_any base X M s ml sv v _ HS.out (HV.out v H0.out)).mono ?_; rintro e w2 ⟨rfl, rfl⟩; rw [HC.out])
    go_ret
    exact ⟨by rw [FB.out]; rfl, rfl⟩
def mdO (s : SE) : ON := ⟨7, if (s.l.getD ((s.sl 8).getD 0) onD).k ≤ 12 then (s.l.getD ((s.sl 8).getD 0) onD).k else 0, (s.sl 9).getD 0, (s.sl 10).getD 0, (s.sl 11).getD 0, 0, 0⟩
theorem made_any (base X M : Nat) (s : SE) (ml : List ON) (sv : Value) (v8 v9 v10 v11 : Nat) (w : World) (hS : SW w base X M s ml sv) (h8 : s.sl 8 = some v8) (h9 : s.sl 9 = some v9) (h10 : s.sl 10 = some v10) (h11 : s.sl 11 = some v11) (hv : v8 < s.l.length) :
  Calls Try.prog 192 #[.pointer (some ⟨X, 0, none⟩)] w fun e w' => e = .returned (.agg #[.int .i64 (mdO s).kd, .int .i64 (mdO s).w, .int .i64 (mdO s).a, .int .i64 (mdO s).b, .int .i64 (mdO s).c, .int .u32 (mdO s).k, .int .i64 (mdO s).n]) ∧ Below w.heap.size w w' := by
 obtain ⟨g, cap, hsv, lg, hcap, hc⟩ := owns_at hS.o (by omega)
 have c0 : w.cell? ⟨X, 0, none⟩ = some (.slice (some ⟨g, 0, none⟩) s.l.length cap) := hsv ▸ hS.xb.cell (i := 0) (by omega)
 have m0 := hc v8 5 hv (by omega)
 simp only [onC] at m0
 obtain ⟨K, HK⟩ : ∃ K, Hid ((s.l.getD v8 onD).k = K) := ⟨_, rfl⟩
 rw [HK.out] at m0
 have i0 : (0 : Int) ≤ (v8 : Int) := by omega
 have i1 : (v8 : Int) < (s.l.length : Int) := by omega
 have lX := hS.xb.lt
 have c8 := hS.xb.cell (i := 2 + 8) (by omega)
 have c9 := hS.xb.cell (i := 2 + 9) (by omega)
 have c10 := hS.xb.cell (i := 2 + 10) (by omega)
 have c11 := hS.xb.cell (i := 2 + 11) (by omega)
 rw [se_sl _ _ _ _ (by omega)] at c8 c9 c10 c11
 rw [h8, oI_some] at c8
 rw [h9, oI_some] at c9
 rw [h10, oI_some] at c10
 rw [h11, oI_some] at c11
 simp only [Nat.reduceAdd] at c8 c9 c10 c11
 have HM : Hid (mdO s = ⟨7, if K ≤ 12 then K else 0, v9, v10, v11, 0, 0⟩) := show _ = _ by unfold mdO; rw [h8, h9, h10, h11]; simp only [Option.getD_some]; rw [HK.out]
 obtain ⟨ww, HWW⟩ : ∃ ww, Hid ((if K ≤ 12 then K else 0) = ww) := ⟨_, rfl⟩
 have HM2 : Hid (mdO s = ⟨7, ww, v9, v10, v11, 0, 0⟩) := HM.out.trans (by rw [HWW.out])
 rw [HM2.out]
 have lX1 := Nat.lt_succ_of_lt lX
 have lX2 := Nat.lt_succ_of_lt lX1
 have lg1 := Nat.lt_succ_of_lt lg
 have lg2 := Nat.lt_succ_of_lt lg1
 have neX : X ≠ w.heap.size := by omega
 have neg : g ≠ w.heap.size := by omega
 have neX1 : X ≠ w.heap.size + 1 := by omega
 have neg1 : g ≠ w.heap.size + 1 := by omega
 clear hS hv hsv hcap hc h8 h9 h10 h11
 go_enter Try.func192, Try.ntmps192
 go_upto_region 1 with fail
 go_region
 go_upto_region 2 with fail
 go_quiet (fail)
 by_cases hk : K ≤ 12
 ·have hK : (K : Int) ≤ 12 := by omega
  have dK : decide ((K : Int) ≤ 12) = true := decide_eq_true hK
  have k0 : (0 : Int) ≤ (K : Int) := by omega
  have HE : Hid (ww = K) := HWW.out.symm.trans (if_pos hk)
  clear hk
  go_wp2
  exact bodyPost_ret (v := .agg #[.int .i64 7, .int .i64 K, .int .i64 v9, .int .i64 v10, .int .i64 v11, .int .u32 0, .int .i64 0]) (by simp [results, Try.results192, go_sem]) rfl ⟨by rw [HE.out]; rfl, by (repeat first | with_reducible exact Below.refl _ _ | with_reducible exact Below.refl _ _ | with_reducible refine Below.drew ?_ | with_reducible refine below_drewN ?_ _ | with_reducible refine Below.alloc ?_ (by first | (simp; done) | (simp; omega) | omega) _ | with_reducible refine Below.setCell ?_ (by first | (simp; done) | (simp; omega) | omega) _)⟩
 ·have hK : ¬ (K : Int) ≤ 12 := by omega
  have dK : decide ((K : Int) ≤ 12) = false := decide_eq_false hK
  have HE : Hid (ww = 0) := HWW.out.symm.trans (if_neg hk)
  clear hk
  go_wp2
  exact bodyPost_ret (v := .agg #[.int .i64 7, .int .i64 0, .int .i64 v9, .int .i64 v10, .int .i64 v11, .int .u32 0, .int .i64 0]) (by simp [results, Try.results192, go_sem]) rfl ⟨by rw [HE.out]; rfl, by (repeat first | with_reducible exact Below.refl _ _ | with_reducible exact Below.refl _ _ | with_reducible refine Below.drew ?_ | with_reducible refine below_drewN ?_ _ | with_reducible refine Below.alloc ?_ (by first | (simp; done) | (simp; omega) | omega) _ | with_reducible refine Below.setCell ?_ (by first | (simp; done) | (simp; omega) | omega) _)⟩
end Go.Proofs.Ytkgbjpdoigdjnab
