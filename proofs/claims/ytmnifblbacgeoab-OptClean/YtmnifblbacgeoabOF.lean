import Derived.Test.YtmnifblbacgeoabOE
namespace Go.Proofs.Ytmnifblbacgeoab
open Go.RowKit
open Go.Maps
set_option maxRecDepth 100000
set_option linter.unusedVariables false
set_option linter.unusedSimpArgs false

theorem wp_gen {P : Program} {c : Code} {Q : Exit → Act → World → Prop} {a : Act} {W : World} (p : World → Prop) (h : p W) (k : ∀ w', p w' → Code.wp P c Q a w') : Code.wp P c Q a W := k W h
/-- A world under way: what is settled, and the operation at hand. -/
structure SX (w W : World) (base X M : Nat) (s : SE) (ml : List ON) (sv0 sv : Value) (o : ON) : Prop where
  sw : SW W base X M s ml sv
  bx : W.heap[w.heap.size]? = some (.cells #[.int .i64 o.kd, .int .i64 o.w, .int .i64 o.a, .int .i64 o.b, .int .i64 o.c, .int .u32 o.k, .int .i64 o.n] 67)
  kz : Kz base X M sv0 w sv W
theorem SX.below {w W W' : World} {base X M : Nat} {s : SE} {ml : List ON} {sv0 sv : Value} {o : ON} (h : SX w W base X M s ml sv0 sv o) (k : Below W.heap.size W W') (hb : base ≤ w.heap.size) : SX w W' base X M s ml sv0 sv o :=
  ⟨h.sw.below k, (k.block _ (row_lt h.bx)).trans h.bx, h.kz.next k hb⟩
theorem SX.start {w : World} {base X M : Nat} {s : SE} {ml : List ON} {sv : Value} (h : SW w base X M s ml sv) (o : ON) : SX w (w.alloc (.cells #[.int .i64 o.kd, .int .i64 o.w, .int .i64 o.a, .int .i64 o.b, .int .i64 o.c, .int .u32 o.k, .int .i64 o.n] 67)) base X M s ml sv sv o :=
  ⟨h.below ((Below.refl _ _).alloc (Nat.le_refl _) _), heap_alloc_last _ _, Kz.of_below ((Below.refl _ _).alloc (Nat.le_refl _) _) h.bw⟩
theorem SX.drewN {w W : World} {base X M : Nat} {s : SE} {ml : List ON} {sv0 sv : Value} {o : ON} (h : SX w W base X M s ml sv0 sv o) (n : Nat) (hb : base ≤ w.heap.size) : SX w (W.drewN n) base X M s ml sv0 sv o :=
  h.below (below_drewN (Below.refl _ _) n) hb
theorem SX.drew {w W : World} {base X M : Nat} {s : SE} {ml : List ON} {sv0 sv : Value} {o : ON} (h : SX w W base X M s ml sv0 sv o) (hb : base ≤ w.heap.size) : SX w W.drew base X M s ml sv0 sv o :=
  h.below (Below.refl _ _).drew hb
theorem SX.sl {w W : World} {base X M : Nat} {s : SE} {ml : List ON} {sv0 sv : Value} {o : ON} (h : SX w W base X M s ml sv0 sv o) (i : Nat) (v : Option Nat) (hi : i < 12) (hX : X < w.heap.size) : SX w (W.setCell ⟨X, 2 + i, none⟩ (.int .i64 (oI v))) base X M { s with sl := upd s.sl i v } ml sv0 sv o :=
  ⟨h.sw.setSl i v hi, (blk_other (by omega) _).trans h.bx, h.kz.setIn (.inl rfl) h.sw.bX _ _⟩
theorem SX.now {w W : World} {base X M : Nat} {s : SE} {ml : List ON} {sv0 sv : Value} {o : ON} (h : SX w W base X M s ml sv0 sv o) (v : Option Nat) (hX : X < w.heap.size) : SX w (W.setCell ⟨X, 14, none⟩ (.int .i64 (oI v))) base X M { s with now := v } ml sv0 sv o :=
  ⟨h.sw.setNow v, (blk_other (by omega) _).trans h.bx, h.kz.setIn (.inl rfl) h.sw.bX _ _⟩
theorem SX.left {w W : World} {base X M : Nat} {s : SE} {ml : List ON} {sv0 sv : Value} {o : ON} (h : SX w W base X M s ml sv0 sv o) (v : Bool) (hX : X < w.heap.size) : SX w (W.setCell ⟨X, 15, none⟩ (.bool v)) base X M { s with lft := v } ml sv0 sv o :=
  ⟨h.sw.setLeft v, (blk_other (by omega) _).trans h.bx, h.kz.setIn (.inl rfl) h.sw.bX _ _⟩
/-- What put answers, and leaves. -/
def putS (s : SE) (o : ON) : SE × Option Nat :=
  if s.sl o.w = some o.a then (s, none) else ({ s with l := s.l ++ [o], sl := upd s.sl o.w (some o.a), now := if 8 ≤ o.w then none else s.now }, some s.l.length)
theorem oI_ne {x : Option Nat} {n : Nat} (h : ¬ x = some n) : (oI x == (n : Int)) = false := by
  cases x with
  | none => exact beq_false_of_ne (by show (-1 : Int) ≠ (n : Int); omega)
  | some m => exact beq_false_of_ne (by have : ¬ m = n := fun e => h (by rw [e])
                                        show (m : Int) ≠ (n : Int); omega)
set_option maxHeartbeats 2000000 in
theorem put_any (base X M : Nat) (s : SE) (ml : List ON) (sv : Value) (o : ON) (w : World) (hS : SW w base X M s ml sv) (hlen : s.l.length < 100000) (hw : o.w < 12) :
    Calls Try.prog 171 #[.pointer (some ⟨X, 0, none⟩), .agg #[.int .i64 o.kd, .int .i64 o.w, .int .i64 o.a, .int .i64 o.b, .int .i64 o.c, .int .u32 o.k, .int .i64 o.n]] w fun e w' => e = .returned (.int .i64 (oI (putS s o).2)) ∧ ∃ sv', SW w' base X M (putS s o).1 ml sv' ∧ Kz base X M sv w sv' w' := by
  have HS : Hid _ := hS
  have HL : Hid (s.l.length < 100000) := hlen
  have HW : Hid (o.w < 12) := hw
  have c1 := hS.xb.cell (i := 2 + o.w) (by omega)
  rw [se_sl _ _ _ _ hw] at c1
  have lX := hS.xb.lt
  have lX1 := Nat.lt_succ_of_lt lX
  have neX : X ≠ w.heap.size := by omega
  have w0 : (0 : Int) ≤ (o.w : Int) := by omega
  have w1 : (o.w : Int) < 12 := by omega
  have fX := hS.xb.frozen
  by_cases hq : s.sl o.w = some o.a
  · have HG : Hid (putS s o = (s, none)) := show _ = _ by unfold putS; rw [if_pos hq]
    rw [HG.out]
    rw [hq, oI_some] at c1
    clear hS hlen hw hq
    go_enter Try.func171, Try.ntmps171
    go_upto_region 1 with fail
    go_quiet (fail)
    go_wp2
    go_ret
    exact ⟨rfl, _, HS.out.below (by (repeat first | with_reducible exact Below.refl _ _ | with_reducible exact Below.refl _ _ | with_reducible refine Below.drew ?_ | with_reducible refine below_drewN ?_ _ | with_reducible refine Below.alloc ?_ (by first | (simp; done) | (simp; omega) | omega) _ | with_reducible refine Below.setCell ?_ (by first | (simp; done) | (simp; omega) | omega) _)), Kz.of_below (by (repeat first | with_reducible exact Below.refl _ _ | with_reducible exact Below.refl _ _ | with_reducible refine Below.drew ?_ | with_reducible refine below_drewN ?_ _ | with_reducible refine Below.alloc ?_ (by first | (simp; done) | (simp; omega) | omega) _ | with_reducible refine Below.setCell ?_ (by first | (simp; done) | (simp; omega) | omega) _)) HS.out.bw⟩
  have HG : Hid (putS s o = ({ s with l := s.l ++ [o], sl := upd s.sl o.w (some o.a), now := if 8 ≤ o.w then none else s.now }, some s.l.length)) := show _ = _ by unfold putS; rw [if_neg hq]
  rw [HG.out]
  have dq := oI_ne hq
  obtain ⟨z, HZ⟩ : ∃ z, Hid (oI (s.sl o.w) = z) := ⟨_, rfl⟩
  rw [HZ.out] at c1 dq
  have hz : ¬ z = (o.a : Int) := by simpa using dq
  clear hS hlen hw hq
  go_enter Try.func171, Try.ntmps171
  go_upto_region 1 with fail
  go_quiet (fail)
  go_upto_region 3 with fail
  go_region
  all_goals
    go_upto_region 4 with fail
    refine wp_gen (fun W' => SX w W' base X M { s with sl := upd s.sl o.w (some o.a) } ml sv sv o) (by first | exact (((SX.start HS.out o).drewN _ HS.out.bw).drew HS.out.bw).sl o.w (some o.a) HW.out lX | exact (((SX.start HS.out o).drewN _ HS.out.bw).drewN _ HS.out.bw).sl o.w (some o.a) HW.out lX | exact ((SX.start HS.out o).drewN _ HS.out.bw).sl o.w (some o.a) HW.out lX) ?_
    intro W hX
    have HX : Hid _ := hX
    have kl := row_lt hX.bx
    have k0 := row_cell hX.bx 0
    have k1 := row_cell hX.bx 1
    have k2 := row_cell hX.bx 2
    have k3 := row_cell hX.bx 3
    have k4 := row_cell hX.bx 4
    have k5 := row_cell hX.bx 5
    have k6 := row_cell hX.bx 6
    have xl := hX.sw.xb.lt
    have xf := hX.sw.xb.frozen
    have x14 := hX.sw.xb.cell (i := 14) (by omega)
    simp only [seF] at x14
    clear hX c1 fX lX1 dq hz HZ
    by_cases h8 : 8 ≤ o.w
    · have d8 : decide ((8 : Int) ≤ (o.w : Int)) = true := decide_eq_true (by omega)
      have hi8 : (8 : Int) ≤ (o.w : Int) := by omega
      have HE : Hid ((if 8 ≤ o.w then none else s.now) = none) := if_pos h8
      clear h8
      go_wp2_with (go_at_call 174; refine (lay_any base X M { s with sl := upd s.sl o.w (some o.a), now := none } ml sv o _ (HX.out.now none lX).sw HL.out).mono ?_; rintro e w2 ⟨rfl, sv2, h2, k2⟩; have H2 : Hid _ := h2; have K2 : Hid _ := k2; clear h2 k2)
      go_ret
      exact ⟨rfl, _, by first | exact H2.out | (rw [HE.out]; exact H2.out), (HX.out.now none lX).kz.trans K2.out⟩
    · have d8 : decide ((8 : Int) ≤ (o.w : Int)) = false := decide_eq_false (by omega)
      have hi8 : ¬ (8 : Int) ≤ (o.w : Int) := by omega
      have HE : Hid ((if 8 ≤ o.w then none else s.now) = s.now) := if_neg h8
      clear h8
      go_wp2_with (go_at_call 174; refine (lay_any base X M { s with sl := upd s.sl o.w (some o.a) } ml sv o _ HX.out.sw HL.out).mono ?_; rintro e w2 ⟨rfl, sv2, h2, k2⟩; have H2 : Hid _ := h2; have K2 : Hid _ := k2; clear h2 k2)
      go_ret
      exact ⟨rfl, _, by first | exact H2.out | (rw [HE.out]; exact H2.out), HX.out.kz.trans K2.out⟩
end Go.Proofs.Ytmnifblbacgeoab
