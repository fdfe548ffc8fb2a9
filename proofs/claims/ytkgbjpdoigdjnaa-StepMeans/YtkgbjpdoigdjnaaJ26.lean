import Derived.Test.YtkgbjpdoigdjnaaJ25
namespace Go.Proofs.Ytkgbjpdoigdjnaa
open Go.RowKit
set_option maxRecDepth 100000
set_option linter.unusedVariables false
set_option linter.unusedSimpArgs false

abbrev runV (r : SO × Nat) : Value := .tuple #[gsV r.1.t, .agg #[.int .i64 r.1.k, .int .u32 r.1.a], .int .i64 r.2]
/-- The loop: what stands behind j steps. -/
structure RnL (w0 wr : World) (k : RB) (m : MS) (s : GS) (n j : Nat) (mj : MS) (sj : GS) : Prop where
  a : StA w0 wr k mj sj
  le : j ≤ n
  run : runF m s n = ((runF mj sj (n - j)).1, (runF mj sj (n - j)).2 + j)
  mok : mj.Ok
  sok : sj.Ok
theorem RnL.stop1 {w0 wr : World} {k : RB} {m mj : MS} {s sj : GS} {n j : Nat} (h : RnL w0 wr k m s n j mj sj) (hj : j < n) (hk : (stepF mj sj).k = 1) : runF m s n = (stepF mj sj, j + 1) := by
  rw [h.run, show n - j = (n - j - 1) + 1 by omega]
  simp only [runF, hk, if_pos]
  rw [Nat.add_comm]
theorem RnL.stop2 {w0 wr : World} {k : RB} {m mj : MS} {s sj : GS} {n j : Nat} (h : RnL w0 wr k m s n j mj sj) (hj : j < n) (h1 : ¬ (stepF mj sj).k = 1) (h0 : ¬ (stepF mj sj).k = 0) : runF m s n = (stepF mj sj, j) := by
  rw [h.run, show n - j = (n - j - 1) + 1 by omega]
  simp only [runF]
  rw [if_neg h1, if_pos h0, Nat.zero_add]
theorem RnL.next {w0 wr w' : World} {k : RB} {m mj : MS} {s sj : GS} {n j : Nat} (h : RnL w0 wr k m s n j mj sj) (hj : j < n) (h0 : (stepF mj sj).k = 0) (ha : StA w0 w' k (stepF mj sj).m (stepF mj sj).t) : RnL w0 w' k m s n (j + 1) (stepF mj sj).m (stepF mj sj).t := by
  refine ⟨ha, hj, ?_, (stepF_ok h.mok h.sok).m, (stepF_ok h.mok h.sok).t⟩
  rw [h.run, show n - j = (n - (j + 1)) + 1 by omega]
  simp only [runF]
  rw [if_neg (by omega), if_neg (by simp [h0])]
  simp only
  rw [show (runF (stepF mj sj).m (stepF mj sj).t (n - (j + 1))).2 + 1 + j = (runF (stepF mj sj).m (stepF mj sj).t (n - (j + 1))).2 + (j + 1) by omega]
theorem RnL.last {w0 wr : World} {k : RB} {m mj : MS} {s sj : GS} {n : Nat} (h : RnL w0 wr k m s n n mj sj) : runF m s n = (⟨sj, 0, 0, mj⟩, n) := by
  rw [h.run, Nat.sub_self]
  simp [runF]

theorem gs_put {w : World} {X : Nat} {s : GS} (h : w.heap[X]? = some (gsB s)) (t : GS) : ((((((((((w.setCell ⟨X, 0, none⟩ (.int .u32 (t.R 0))).setCell ⟨X, 1, none⟩ (.int .u32 (t.R 1))).setCell ⟨X, 2, none⟩ (.int .u32 (t.R 2))).setCell ⟨X, 3, none⟩ (.int .u32 (t.R 3))).setCell ⟨X, 4, none⟩ (.int .u32 (t.R 4))).setCell ⟨X, 5, none⟩ (.int .u32 (t.R 5))).setCell ⟨X, 6, none⟩ (.int .u32 (t.R 6))).setCell ⟨X, 7, none⟩ (.int .u32 (t.R 7))).setCell ⟨X, 8, none⟩ (.int .u32 t.pc)).setCell ⟨X, 9, none⟩ (.int .u32 t.f)).heap[X]? = some (gsB t) := by
  have h0 := gs_setR h 0 (by omega) (t.R 0 : Int) (Int.natCast_nonneg _)
  have h1 := gs_setR h0 1 (by omega) (t.R 1 : Int) (Int.natCast_nonneg _)
  have h2 := gs_setR h1 2 (by omega) (t.R 2 : Int) (Int.natCast_nonneg _)
  have h3 := gs_setR h2 3 (by omega) (t.R 3 : Int) (Int.natCast_nonneg _)
  have h4 := gs_setR h3 4 (by omega) (t.R 4 : Int) (Int.natCast_nonneg _)
  have h5 := gs_setR h4 5 (by omega) (t.R 5 : Int) (Int.natCast_nonneg _)
  have h6 := gs_setR h5 6 (by omega) (t.R 6 : Int) (Int.natCast_nonneg _)
  have h7 := gs_setR h6 7 (by omega) (t.R 7 : Int) (Int.natCast_nonneg _)
  have h8 := gs_setPC h7 (t.pc : Int) (Int.natCast_nonneg _)
  have h9 := gs_setF h8 (t.f : Int) (Int.natCast_nonneg _)
  rw [h9]
  simp [gsB, gsC, GS.setR, GS.setPC, GS.setF, upd]
theorem StA.putS {w0 w : World} {k : RB} {m : MS} {s : GS} (h : StA w0 w k m s) (t : GS) : StA w0 ((((((((((w.setCell ⟨w0.heap.size, 0, none⟩ (.int .u32 (t.R 0))).setCell ⟨w0.heap.size, 1, none⟩ (.int .u32 (t.R 1))).setCell ⟨w0.heap.size, 2, none⟩ (.int .u32 (t.R 2))).setCell ⟨w0.heap.size, 3, none⟩ (.int .u32 (t.R 3))).setCell ⟨w0.heap.size, 4, none⟩ (.int .u32 (t.R 4))).setCell ⟨w0.heap.size, 5, none⟩ (.int .u32 (t.R 5))).setCell ⟨w0.heap.size, 6, none⟩ (.int .u32 (t.R 6))).setCell ⟨w0.heap.size, 7, none⟩ (.int .u32 (t.R 7))).setCell ⟨w0.heap.size, 8, none⟩ (.int .u32 t.pc)).setCell ⟨w0.heap.size, 9, none⟩ (.int .u32 t.f)) k m t := by
  have hn : w0.heap.size ∉ k.y :: k.all := fun hm => by have := h.lk _ hm; omega
  have hO : Only w0.heap.size w ((((((((((w.setCell ⟨w0.heap.size, 0, none⟩ (.int .u32 (t.R 0))).setCell ⟨w0.heap.size, 1, none⟩ (.int .u32 (t.R 1))).setCell ⟨w0.heap.size, 2, none⟩ (.int .u32 (t.R 2))).setCell ⟨w0.heap.size, 3, none⟩ (.int .u32 (t.R 3))).setCell ⟨w0.heap.size, 4, none⟩ (.int .u32 (t.R 4))).setCell ⟨w0.heap.size, 5, none⟩ (.int .u32 (t.R 5))).setCell ⟨w0.heap.size, 6, none⟩ (.int .u32 (t.R 6))).setCell ⟨w0.heap.size, 7, none⟩ (.int .u32 (t.R 7))).setCell ⟨w0.heap.size, 8, none⟩ (.int .u32 t.pc)).setCell ⟨w0.heap.size, 9, none⟩ (.int .u32 t.f)) := (((((((((((Only.refl _ w).setCell 0 _).setCell 1 _).setCell 2 _).setCell 3 _).setCell 4 _).setCell 5 _).setCell 6 _).setCell 7 _).setCell 8 _).setCell 9 _)
  exact ⟨h.rm.off hn hO.block, h.chg.new (Nat.le_refl _) hO, gs_put h.b0 t, (hO.block _ (by omega)).trans h.b1, (hO.block _ (by omega)).trans h.b2, h.lk⟩
theorem StA.alloc {w0 w : World} {k : RB} {m : MS} {s : GS} (h : StA w0 w k m s) (o : Obj) : StA w0 (w.alloc o) k m s := h.below ((Below.refl _ _).alloc (Nat.le_refl _) o)

set_option maxHeartbeats 4000000 in
theorem rrun_neg (k : RB) (m : MS) (s0 s : GS) (n : Int) (w : World) (hrm : RM w k m) (hm : m.Ok) (hs0 : s0.Ok) (hs : s0.setF (s0.f % 16) = s) (hn : n < 0) :
    Calls Try.prog 39 #[.pointer (some ⟨k.y, 0, none⟩), gsV s0, .int .i64 n] w fun e w' => e = .returned (runV (runF m s 0)) ∧ RM w' k (runF m s 0).1.m ∧ Chg k.all w w' := by
  have HA0 : Hid (StA w (stW0 w (s0.setF (s0.f % 16))) k m (s0.setF (s0.f % 16))) := st_start hrm
  have HF16 : Hid ((s0.f : Int) % 16 = ((s0.f % 16 : Nat) : Int)) := (Int.natCast_emod s0.f 16).symm
  have HS : Hid (s0.setF (s0.f % 16) = s) := hs
  have HSO : Hid s.Ok := hs ▸ hs0.setF _ (by omega)
  have HMK : Hid m.Ok := hm
  have d0 : decide (0 < n) = false := decide_eq_false (by omega)
  have d1 : decide (n < 0) = true := decide_eq_true hn
  have HF : Hid (runF m s 0 = (⟨s, 0, 0, m⟩, 0)) := rfl
  clear hrm hm hs hs0
  go_enter Try.func39, Try.ntmps39
  go_upto_region 2 with fail
  rw [HF16.out]
  change Code.wp _ _ _ _ (stW0 w (s0.setF (s0.f % 16)))
  have HA' := HA0.out
  rw [HS.out] at HA' ⊢
  clear HA0
  have HA : Hid _ := HA'
  clear HA'
  generalize stW0 w s = W at HA ⊢
  generalize s0.f % 16 = ff
  obtain ⟨x0, x1, x2, x3, x4, x5, x6, x7, x8, x9⟩ := gs_all HA.out.b0
  obtain ⟨z0, z1, z2, z3, z4, z5, z6, z7, z8, z9⟩ := gs_all HA.out.b1
  have xf := gs_fr HA.out.b0
  have zf := gs_fr HA.out.b1
  obtain ⟨p0, p1, pf0, pf1⟩ := stop_cells HA.out.b2
  have l0 := lt_of_block HA.out.b0
  have l1 := lt_of_block HA.out.b1
  have l2 := lt_of_block HA.out.b2
  go_wp2
  go_loopw [9] (fun i wr => i = .int .i64 0 ∧ wr = W) (fun _ _ => 0)
  case atStart => exact ⟨rfl, rfl⟩
  case round =>
    obtain ⟨rfl, rfl⟩ := hrel
    go_wp2
    exact bodyPost_ret (v := .tuple #[gsV s, .agg #[.int .i64 0, .int .u32 0], .int .i64 0]) (by simp [results, Try.results39, go_sem, x0, x1, x2, x3, x4, x5, x6, x7, x8, x9, z0, z1, z2, z3, z4, z5, z6, z7, z8, z9, p0, p1, l0, l1, l2]) rfl ⟨by rw [HF.out]; rfl, by
      rw [HF.out]
      have hB := HA.out.rm
      have hl := HA.out.lk
      repeat first
        | with_reducible exact hB
        | with_reducible refine RM.drew ?_
        | with_reducible refine RM.setOff' ?_ hl (by omega) _ _
        | with_reducible refine RM.alloc ?_ _, by
      have hB := HA.out.chg
      repeat first
        | with_reducible exact hB
        | with_reducible refine Chg.drew ?_
        | with_reducible refine Chg.setNew ?_ (by omega) _ _
        | with_reducible refine Chg.alloc ?_ _⟩

set_option maxHeartbeats 4000000 in
theorem rrun_pos (k : RB) (m : MS) (s0 s : GS) (n : Nat) (w : World) (hrm : RM w k m) (hm : m.Ok) (hs0 : s0.Ok) (hs : s0.setF (s0.f % 16) = s) (hn : (n : Int) ≤ 9223372036854775807) :
    Calls Try.prog 39 #[.pointer (some ⟨k.y, 0, none⟩), gsV s0, .int .i64 n] w fun e w' => e = .returned (runV (runF m s n)) ∧ RM w' k (runF m s n).1.m ∧ Chg k.all w w' := by
  have HA0 : Hid (StA w (stW0 w (s0.setF (s0.f % 16))) k m (s0.setF (s0.f % 16))) := st_start hrm
  have HF16 : Hid ((s0.f : Int) % 16 = ((s0.f % 16 : Nat) : Int)) := (Int.natCast_emod s0.f 16).symm
  have HS : Hid (s0.setF (s0.f % 16) = s) := hs
  have HSO : Hid s.Ok := hs ▸ hs0.setF _ (by omega)
  have HMK : Hid m.Ok := hm
  clear hrm hm hs hs0
  go_enter Try.func39, Try.ntmps39
  go_upto_region 2 with fail
  rw [HF16.out]
  change Code.wp _ _ _ _ (stW0 w (s0.setF (s0.f % 16)))
  have HA' := HA0.out
  rw [HS.out] at HA' ⊢
  clear HA0
  have HA : Hid _ := HA'
  clear HA'
  generalize stW0 w s = W at HA ⊢
  generalize s0.f % 16 = ff
  go_wp2
  go_loopw [9] (fun i wr => ∃ (j : Nat) (mj : MS) (sj : GS), i = .int .i64 j ∧ RnL w wr k m s n j mj sj) (fun i _ => n - (intOf i).toNat)
  case atStart => exact ⟨0, m, s, rfl, HA.out, Nat.zero_le _, by rw [Nat.sub_zero]; rfl, HMK.out, HSO.out⟩
  case round =>
    obtain ⟨j, mj, sj, rfl, hL⟩ := hrel
    have HL : Hid _ := hL
    have hj := hL.le
    clear hL
    obtain ⟨x0, x1, x2, x3, x4, x5, x6, x7, x8, x9⟩ := gs_all HL.out.a.b0
    by_cases hlt : j < n
    · have hji : (j : Int) < n := by omega
      have d0 : decide ((j : Int) < (n : Int)) = true := decide_eq_true hji
      have hj0 : (0 : Int) ≤ j := by omega
      have hw1 : (j : Int) + 1 ≤ 9223372036854775807 := by omega
      obtain ⟨⟨t', kk, aa, m'⟩, HR⟩ : ∃ R, Hid (stepF mj sj = R) := ⟨_, rfl⟩
      have HST : Hid (∀ w1, RM w1 k mj → Calls Try.prog 37 #[.pointer (some ⟨k.y, 0, none⟩), gsV sj] w1 fun e w' => e = .returned (.tuple #[gsV t', .agg #[.int .i64 kk, .int .u32 aa]]) ∧ RM w' k m' ∧ Chg k.all w1 w') := fun w1 h1 => by
        have := rstep_any k mj sj w1 h1 HL.out.mok HL.out.sok
        rw [HR.out] at this
        exact this
      by_cases h1 : kk = 1
      · subst h1
        have HF : Hid (runF m s n = (⟨t', 1, aa, m'⟩, j + 1)) := HR.out ▸ HL.out.stop1 hlt (by rw [HR.out])
        go_wp2_with (go_at_call 37; refine (HST.out _ HL.out.a.rm).mono ?_; rintro e1 w1 ⟨rfl, hR1, hC1⟩; have HA1 : Hid (StA w w1 k m' sj) := HL.out.a.after hR1 hC1; clear x0 x1 x2 x3 x4 x5 x6 x7 x8 x9 hR1 hC1; obtain ⟨x0, x1, x2, x3, x4, x5, x6, x7, x8, x9⟩ := gs_all HA1.out.b0; have xf := gs_fr HA1.out.b0; obtain ⟨z0, z1, z2, z3, z4, z5, z6, z7, z8, z9⟩ := gs_all HA1.out.b1; have zf := gs_fr HA1.out.b1; obtain ⟨p0, p1, pf0, pf1⟩ := stop_cells HA1.out.b2; have l0 := lt_of_block HA1.out.b0; have l1 := lt_of_block HA1.out.b1; have l2 := lt_of_block HA1.out.b2)
        go_region
        all_goals
          go_wp2
          exact bodyPost_ret (v := .tuple #[gsV t', .agg #[.int .i64 1, .int .u32 aa], .int .i64 ((j : Int) + 1)]) (by simp [results, Try.results39, go_sem, x0, x1, x2, x3, x4, x5, x6, x7, x8, x9, z0, z1, z2, z3, z4, z5, z6, z7, z8, z9, p0, p1, l0, l1, l2]) rfl ⟨by rw [HF.out]; rfl, by
            rw [HF.out]
            have hB := HA1.out.rm
            have hl := HA1.out.lk
            repeat first
              | with_reducible exact hB
              | with_reducible refine RM.drew ?_
              | with_reducible refine RM.setOff' ?_ hl (by omega) _ _
              | with_reducible refine RM.alloc ?_ _, by
            have hB := HA1.out.chg
            repeat first
              | with_reducible exact hB
              | with_reducible refine Chg.drew ?_
              | with_reducible refine Chg.setNew ?_ (by omega) _ _
              | with_reducible refine Chg.alloc ?_ _⟩
      have hk1b : (kk == 1) = false := by simpa using h1
      by_cases h0 : kk = 0
      · subst h0
        have HN : Hid (∀ w2, StA w w2 k m' t' → RnL w w2 k m s n (j + 1) m' t') := fun w2 h2 => by
          have := HL.out.next (w' := w2) hlt (by rw [HR.out]) (by rw [HR.out]; exact h2)
          rw [HR.out] at this
          exact this
        clear h1 hk1b
        go_wp2_with (go_at_call 37; refine (HST.out _ HL.out.a.rm).mono ?_; rintro e1 w1 ⟨rfl, hR1, hC1⟩; have HA1 : Hid (StA w w1 k m' sj) := HL.out.a.after hR1 hC1; clear x0 x1 x2 x3 x4 x5 x6 x7 x8 x9 hR1 hC1; obtain ⟨x0, x1, x2, x3, x4, x5, x6, x7, x8, x9⟩ := gs_all HA1.out.b0; have xf := gs_fr HA1.out.b0; obtain ⟨z0, z1, z2, z3, z4, z5, z6, z7, z8, z9⟩ := gs_all HA1.out.b1; have zf := gs_fr HA1.out.b1; obtain ⟨p0, p1, pf0, pf1⟩ := stop_cells HA1.out.b2; have l0 := lt_of_block HA1.out.b0; have l1 := lt_of_block HA1.out.b1; have l2 := lt_of_block HA1.out.b2)
        go_roundw
        case rel => exact ⟨j + 1, m', t', by go_num, HN.out _ (by first | exact ((HA1.out.putS _).alloc _).alloc _ | exact ((HA1.out.alloc _).alloc _).putS _)⟩
        case measure => simp [intOf]; omega
      · have hk0b : (kk == 0) = false := by simpa using h0
        have hk0c : (kk != 0) = true := by simpa using h0
        have HF : Hid (runF m s n = (⟨t', kk, aa, m'⟩, j)) := HR.out ▸ HL.out.stop2 hlt (by rw [HR.out]; exact h1) (by rw [HR.out]; exact h0)
        go_wp2_with (go_at_call 37; refine (HST.out _ HL.out.a.rm).mono ?_; rintro e1 w1 ⟨rfl, hR1, hC1⟩; have HA1 : Hid (StA w w1 k m' sj) := HL.out.a.after hR1 hC1; clear x0 x1 x2 x3 x4 x5 x6 x7 x8 x9 hR1 hC1; obtain ⟨x0, x1, x2, x3, x4, x5, x6, x7, x8, x9⟩ := gs_all HA1.out.b0; have xf := gs_fr HA1.out.b0; obtain ⟨z0, z1, z2, z3, z4, z5, z6, z7, z8, z9⟩ := gs_all HA1.out.b1; have zf := gs_fr HA1.out.b1; obtain ⟨p0, p1, pf0, pf1⟩ := stop_cells HA1.out.b2; have l0 := lt_of_block HA1.out.b0; have l1 := lt_of_block HA1.out.b1; have l2 := lt_of_block HA1.out.b2)
        go_region
        all_goals
          go_wp2
          exact bodyPost_ret (v := .tuple #[gsV t', .agg #[.int .i64 kk, .int .u32 aa], .int .i64 j]) (by simp [results, Try.results39, go_sem, x0, x1, x2, x3, x4, x5, x6, x7, x8, x9, z0, z1, z2, z3, z4, z5, z6, z7, z8, z9, p0, p1, l0, l1, l2]) rfl ⟨by rw [HF.out], by
            rw [HF.out]
            have hB := HA1.out.rm
            have hl := HA1.out.lk
            repeat first
              | with_reducible exact hB
              | with_reducible refine RM.drew ?_
              | with_reducible refine RM.setOff' ?_ hl (by omega) _ _
              | with_reducible refine RM.alloc ?_ _, by
            have hB := HA1.out.chg
            repeat first
              | with_reducible exact hB
              | with_reducible refine Chg.drew ?_
              | with_reducible refine Chg.setNew ?_ (by omega) _ _
              | with_reducible refine Chg.alloc ?_ _⟩
    · have hjn : j = n := by omega
      subst hjn
      have d0 : decide ((j : Int) < (j : Int)) = false := decide_eq_false (by omega)
      have d1 : decide ((j : Int) < 0) = false := decide_eq_false (by omega)
      have HF : Hid (runF m s j = (⟨sj, 0, 0, mj⟩, j)) := HL.out.last
      obtain ⟨z0, z1, z2, z3, z4, z5, z6, z7, z8, z9⟩ := gs_all HL.out.a.b1
      have zf := gs_fr HL.out.a.b1
      obtain ⟨p0, p1, pf0, pf1⟩ := stop_cells HL.out.a.b2
      have l0 := lt_of_block HL.out.a.b0
      have l1 := lt_of_block HL.out.a.b1
      have l2 := lt_of_block HL.out.a.b2
      go_wp2
      exact bodyPost_ret (v := .tuple #[gsV sj, .agg #[.int .i64 0, .int .u32 0], .int .i64 j]) (by simp [results, Try.results39, go_sem, x0, x1, x2, x3, x4, x5, x6, x7, x8, x9, z0, z1, z2, z3, z4, z5, z6, z7, z8, z9, p0, p1, l0, l1, l2]) rfl ⟨by rw [HF.out], by
        rw [HF.out]
        have hB := HL.out.a.rm
        have hl := HL.out.a.lk
        repeat first
          | with_reducible exact hB
          | with_reducible refine RM.drew ?_
          | with_reducible refine RM.setOff' ?_ hl (by omega) _ _
          | with_reducible refine RM.alloc ?_ _, by
        have hB := HL.out.a.chg
        repeat first
          | with_reducible exact hB
          | with_reducible refine Chg.drew ?_
          | with_reducible refine Chg.setNew ?_ (by omega) _ _
          | with_reducible refine Chg.alloc ?_ _⟩

theorem rrun_any (k : RB) (m : MS) (s : GS) (n : Int) (w : World) (hrm : RM w k m) (hm : m.Ok) (hs : s.Ok) (hn : n ≤ 9223372036854775807) :
    Calls Try.prog 39 #[.pointer (some ⟨k.y, 0, none⟩), gsV s, .int .i64 n] w fun e w' => e = .returned (runV (runF m (s.setF (s.f % 16)) n.toNat)) ∧ RM w' k (runF m (s.setF (s.f % 16)) n.toNat).1.m ∧ Chg k.all w w' := by
  by_cases h : n < 0
  · rw [show n.toNat = 0 by omega]
    exact rrun_neg k m s _ n w hrm hm hs rfl h
  · obtain ⟨j, rfl⟩ : ∃ j : Nat, n = j := ⟨n.toNat, by omega⟩
    exact rrun_pos k m s _ j w hrm hm hs rfl hn
theorem runF_ok : ∀ (n : Nat) (m : MS) (s : GS), m.Ok → s.Ok → (runF m s n).1.Ok ∧ (runF m s n).2 ≤ n
  | 0, m, s, hm, hs => ⟨⟨hs, hm⟩, Nat.le_refl _⟩
  | n + 1, m, s, hm, hs => by
    have ho := stepF_ok hm hs
    simp only [runF]
    by_cases h1 : (stepF m s).k = 1
    · rw [if_pos h1]; exact ⟨ho, by show 1 ≤ n + 1; omega⟩
    rw [if_neg h1]
    by_cases h0 : (stepF m s).k ≠ 0
    · rw [if_pos h0]; exact ⟨ho, Nat.zero_le _⟩
    rw [if_neg h0]
    have := runF_ok n _ _ ho.m ho.t
    exact ⟨this.1, Nat.succ_le_succ this.2⟩
end Go.Proofs.Ytkgbjpdoigdjnaa
