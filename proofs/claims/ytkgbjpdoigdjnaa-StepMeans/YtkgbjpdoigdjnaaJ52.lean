import Derived.Test.YtkgbjpdoigdjnaaJ51
namespace Go.Proofs.Ytkgbjpdoigdjnaa
open Go.RowKit
set_option maxRecDepth 100000
set_option linter.unusedVariables false
set_option linter.unusedSimpArgs false

/-- The loop: what stands behind j steps. -/
structure PRn (w0 wr : World) (X : Nat) (m : MS) (s : GS) (n j : Nat) (mj : MS) (sj : GS) : Prop where
  a : PSt w0 wr X mj sj
  le : j ≤ n
  run : runF m s n = ((runF mj sj (n - j)).1, (runF mj sj (n - j)).2 + j)
  mok : mj.Ok
  sok : sj.Ok
theorem PRn.stop1 {w0 wr : World} {X : Nat} {m mj : MS} {s sj : GS} {n j : Nat} (h : PRn w0 wr X m s n j mj sj) (hj : j < n) (hk : (stepF mj sj).k = 1) : runF m s n = (stepF mj sj, j + 1) := by
  rw [h.run, show n - j = (n - j - 1) + 1 by omega]
  simp only [runF, hk, if_pos]
  rw [Nat.add_comm]
theorem PRn.stop2 {w0 wr : World} {X : Nat} {m mj : MS} {s sj : GS} {n j : Nat} (h : PRn w0 wr X m s n j mj sj) (hj : j < n) (h1 : ¬ (stepF mj sj).k = 1) (h0 : ¬ (stepF mj sj).k = 0) : runF m s n = (stepF mj sj, j) := by
  rw [h.run, show n - j = (n - j - 1) + 1 by omega]
  simp only [runF]
  rw [if_neg h1, if_pos h0, Nat.zero_add]
theorem PRn.next {w0 wr w' : World} {X : Nat} {m mj : MS} {s sj : GS} {n j : Nat} (h : PRn w0 wr X m s n j mj sj) (hj : j < n) (h0 : (stepF mj sj).k = 0) (ha : PSt w0 w' X (stepF mj sj).m (stepF mj sj).t) : PRn w0 w' X m s n (j + 1) (stepF mj sj).m (stepF mj sj).t := by
  refine ⟨ha, hj, ?_, (stepF_ok h.mok h.sok).m, (stepF_ok h.mok h.sok).t⟩
  rw [h.run, show n - j = (n - (j + 1)) + 1 by omega]
  simp only [runF]
  rw [if_neg (by omega), if_neg (by simp [h0])]
  simp only
  rw [show (runF (stepF mj sj).m (stepF mj sj).t (n - (j + 1))).2 + 1 + j = (runF (stepF mj sj).m (stepF mj sj).t (n - (j + 1))).2 + (j + 1) by omega]
theorem PRn.last {w0 wr : World} {X : Nat} {m mj : MS} {s sj : GS} {n : Nat} (h : PRn w0 wr X m s n n mj sj) : runF m s n = (⟨sj, 0, 0, mj⟩, n) := by
  rw [h.run, Nat.sub_self]
  simp [runF]

theorem PSt.putS {w0 w : World} {X : Nat} {m : MS} {s : GS} (h : PSt w0 w X m s) (t : GS) : PSt w0 ((((((((((w.setCell ⟨w0.heap.size, 0, none⟩ (.int .u32 (t.R 0))).setCell ⟨w0.heap.size, 1, none⟩ (.int .u32 (t.R 1))).setCell ⟨w0.heap.size, 2, none⟩ (.int .u32 (t.R 2))).setCell ⟨w0.heap.size, 3, none⟩ (.int .u32 (t.R 3))).setCell ⟨w0.heap.size, 4, none⟩ (.int .u32 (t.R 4))).setCell ⟨w0.heap.size, 5, none⟩ (.int .u32 (t.R 5))).setCell ⟨w0.heap.size, 6, none⟩ (.int .u32 (t.R 6))).setCell ⟨w0.heap.size, 7, none⟩ (.int .u32 (t.R 7))).setCell ⟨w0.heap.size, 8, none⟩ (.int .u32 t.pc)).setCell ⟨w0.heap.size, 9, none⟩ (.int .u32 t.f)) X m t := by
  have hX := h.hX
  have hO : Only w0.heap.size w ((((((((((w.setCell ⟨w0.heap.size, 0, none⟩ (.int .u32 (t.R 0))).setCell ⟨w0.heap.size, 1, none⟩ (.int .u32 (t.R 1))).setCell ⟨w0.heap.size, 2, none⟩ (.int .u32 (t.R 2))).setCell ⟨w0.heap.size, 3, none⟩ (.int .u32 (t.R 3))).setCell ⟨w0.heap.size, 4, none⟩ (.int .u32 (t.R 4))).setCell ⟨w0.heap.size, 5, none⟩ (.int .u32 (t.R 5))).setCell ⟨w0.heap.size, 6, none⟩ (.int .u32 (t.R 6))).setCell ⟨w0.heap.size, 7, none⟩ (.int .u32 (t.R 7))).setCell ⟨w0.heap.size, 8, none⟩ (.int .u32 t.pc)).setCell ⟨w0.heap.size, 9, none⟩ (.int .u32 t.f)) := (((((((((((Only.refl _ w).setCell 0 _).setCell 1 _).setCell 2 _).setCell 3 _).setCell 4 _).setCell 5 _).setCell 6 _).setCell 7 _).setCell 8 _).setCell 9 _)
  exact ⟨h.pm.of_block (hO.block X (by omega)), h.chg.new (Nat.le_refl _) hO, gs_put h.b0 t, (hO.block _ (by omega)).trans h.b1, (hO.block _ (by omega)).trans h.b2, hX⟩
theorem PSt.after {w W w1 : World} {X : Nat} {m m' : MS} {s : GS} (h : PSt w W X m s) (hp : PM w1 X m') (hc : Chg [X] W w1) : PSt w w1 X m' s := by
  have hX := h.hX
  exact ⟨hp, h.chg.trans hc, (hc.block _ (lt_of_block h.b0) (by simp; omega)).trans h.b0, (hc.block _ (lt_of_block h.b1) (by simp; omega)).trans h.b1, (hc.block _ (lt_of_block h.b2) (by simp; omega)).trans h.b2, hX⟩
theorem stop_kept {W w1 : World} {X : Nat} (hX : X < W.heap.size) (hc : Chg [X] (W.alloc (stopB 0 0)) w1) : w1.heap[W.heap.size]? = some (stopB 0 0) :=
  (hc.block _ (by simp) (by simp; omega)).trans (heap_alloc_last W _)
set_option maxHeartbeats 4000000 in
theorem prun_neg (X : Nat) (m : MS) (s0 s : GS) (n : Int) (w : World) (hpm : PM w X m) (hm : m.Ok) (hs0 : s0.Ok) (hs : s0.setF (s0.f % 16) = s) (hn : n < 0) :
    Calls Try.prog 38 #[.pointer (some ⟨X, 0, none⟩), gsV s0, .int .i64 n] w fun e w' => e = .returned (.tuple #[gsV s, .agg #[.int .i64 0, .int .u32 0], .int .i64 0]) ∧ PFin w w' X m := by
  have h15 := and15 s0.f hs0.f
  have HA0 : Hid (PSt w (stW0 w (s0.setF (s0.f % 16))) X m (s0.setF (s0.f % 16))) := pst_start hpm
  have HX : Hid _ := hpm.lt
  have HF16 : Hid ((s0.f : Int) % 16 = ((s0.f % 16 : Nat) : Int)) := (Int.natCast_emod s0.f 16).symm
  have HS : Hid (s0.setF (s0.f % 16) = s) := hs
  have HSO : Hid s.Ok := hs ▸ hs0.setF _ (by omega)
  have HMK : Hid m.Ok := hm
  have d0 : decide (0 < n) = false := decide_eq_false (by omega)
  have d1 : decide (n < 0) = true := decide_eq_true hn
  clear hpm hm hs hs0
  go_enter Try.func38, Try.ntmps38
  go_upto_region 2 with fail
  rw [HF16.out]
  change Code.wp _ _ _ _ (stW0 w (s0.setF (s0.f % 16)))
  have HA' := HA0.out
  rw [HS.out] at HA' ⊢
  clear HA0
  have HA : Hid _ := HA'
  clear HA'
  generalize stW0 w s = W at HA ⊢
  generalize s0.f % 16 = ff at *
  obtain ⟨x0, x1, x2, x3, x4, x5, x6, x7, x8, x9⟩ := gs_all HA.out.b0
  obtain ⟨z0, z1, z2, z3, z4, z5, z6, z7, z8, z9⟩ := gs_all HA.out.b1
  have zf := gs_fr HA.out.b1
  obtain ⟨p0, p1, pf0, pf1⟩ := stop_cells HA.out.b2
  have l0 := lt_of_block HA.out.b0
  have l1 := lt_of_block HA.out.b1
  have l2 := lt_of_block HA.out.b2
  go_wp2
  go_loopw [16] (fun i wr => i = .int .i64 0 ∧ wr = W) (fun _ _ => 0)
  case atStart => exact ⟨rfl, rfl⟩
  case round =>
    obtain ⟨rfl, rfl⟩ := hrel
    go_wp2
    exact bodyPost_ret (v := .tuple #[gsV s, .agg #[.int .i64 0, .int .u32 0], .int .i64 0]) (by simp [results, Try.results38, go_sem, x0, x1, x2, x3, x4, x5, x6, x7, x8, x9, z0, z1, z2, z3, z4, z5, z6, z7, z8, z9, p0, p1, l0, l1, l2]) rfl ⟨rfl, by
      have hB := HA.out.fin
      have hX := HX.out
      repeat first
        | with_reducible exact hB
        | with_reducible refine PFin.drew ?_
        | with_reducible refine PFin.new hX ?_ (by omega) _ _
        | with_reducible refine PFin.alloc ?_ _⟩

set_option maxHeartbeats 4000000 in
theorem prun_pos (X : Nat) (m : MS) (s0 s : GS) (n : Nat) (w : World) (hpm : PM w X m) (hm : m.Ok) (hs0 : s0.Ok) (hs : s0.setF (s0.f % 16) = s) (hn : (n : Int) ≤ 9223372036854775807) :
    Calls Try.prog 38 #[.pointer (some ⟨X, 0, none⟩), gsV s0, .int .i64 n] w fun e w' => e = .returned (runV (runF m s n)) ∧ PFin w w' X (runF m s n).1.m := by
  have h15 := and15 s0.f hs0.f
  have HA0 : Hid (PSt w (stW0 w (s0.setF (s0.f % 16))) X m (s0.setF (s0.f % 16))) := pst_start hpm
  have HX : Hid _ := hpm.lt
  have HF16 : Hid ((s0.f : Int) % 16 = ((s0.f % 16 : Nat) : Int)) := (Int.natCast_emod s0.f 16).symm
  have HS : Hid (s0.setF (s0.f % 16) = s) := hs
  have HSO : Hid s.Ok := hs ▸ hs0.setF _ (by omega)
  have HMK : Hid m.Ok := hm
  clear hpm hm hs hs0
  go_enter Try.func38, Try.ntmps38
  go_upto_region 2 with fail
  rw [HF16.out]
  change Code.wp _ _ _ _ (stW0 w (s0.setF (s0.f % 16)))
  have HA' := HA0.out
  rw [HS.out] at HA' ⊢
  clear HA0
  have HA : Hid _ := HA'
  clear HA'
  generalize stW0 w s = W at HA ⊢
  generalize s0.f % 16 = ff at *
  go_wp2
  go_loopw [16] (fun i wr => ∃ (j : Nat) (mj : MS) (sj : GS), i = .int .i64 j ∧ PRn w wr X m s n j mj sj) (fun i _ => n - (intOf i).toNat)
  case atStart => exact ⟨0, m, s, rfl, HA.out, Nat.zero_le _, by rw [Nat.sub_zero]; rfl, HMK.out, HSO.out⟩
  case round =>
    obtain ⟨j, mj, sj, rfl, hL⟩ := hrel
    have HL : Hid _ := hL
    have hj := hL.le
    have g2 := lt_of_block hL.a.b2
    have g0 := lt_of_block hL.a.b0
    have g1 := lt_of_block hL.a.b1
    have g01 := Nat.lt_succ_of_lt g0
    clear hL
    obtain ⟨x0, x1, x2, x3, x4, x5, x6, x7, x8, x9⟩ := gs_all HL.out.a.b0
    by_cases hlt : j < n
    · have hji : (j : Int) < n := by omega
      have d0 : decide ((j : Int) < (n : Int)) = true := decide_eq_true hji
      have hj0 : (0 : Int) ≤ j := by omega
      have hw1 : (j : Int) + 1 ≤ 9223372036854775807 := by omega
      obtain ⟨⟨t', kk, aa, m'⟩, HR⟩ : ∃ R, Hid (stepF mj sj = R) := ⟨_, rfl⟩
      have HST : Hid (∀ w1, PM w1 X mj → Calls Try.prog 36 #[.pointer (some ⟨X, 0, none⟩), gsV sj] w1 fun e w' => e = .returned (.tuple #[gsV t', .agg #[.int .i64 kk, .int .u32 aa]]) ∧ PM w' X m' ∧ Chg [X] w1 w') := fun w1 h1 => by
        have := step_ok X mj sj w1 h1 HL.out.mok HL.out.sok
        rw [HR.out] at this
        exact this
      by_cases h1 : kk = 1
      · subst h1
        have HF : Hid (runF m s n = (⟨t', 1, aa, m'⟩, j + 1)) := HR.out ▸ HL.out.stop1 hlt (by rw [HR.out])
        go_wp2_with (go_at_call 36; refine (HST.out _ (HL.out.a.pm.alloc _)).mono ?_; rintro e1 w1 ⟨rfl, hR1, hC1⟩; have HA1 : Hid (PSt w w1 X m' sj) := (HL.out.a.alloc _).after hR1 hC1; have HQ : Hid _ := stop_kept HL.out.a.pm.lt hC1; clear x0 x1 x2 x3 x4 x5 x6 x7 x8 x9 hR1 hC1; obtain ⟨q0, q1, qf0, qf1⟩ := stop_cells HQ.out; obtain ⟨x0, x1, x2, x3, x4, x5, x6, x7, x8, x9⟩ := gs_all HA1.out.b0; have xf := gs_fr HA1.out.b0; obtain ⟨z0, z1, z2, z3, z4, z5, z6, z7, z8, z9⟩ := gs_all HA1.out.b1; have zf := gs_fr HA1.out.b1; obtain ⟨p0, p1, pf0, pf1⟩ := stop_cells HA1.out.b2; have l0 := lt_of_block HA1.out.b0; have l1 := lt_of_block HA1.out.b1; have l2 := lt_of_block HA1.out.b2; have l3 := lt_of_block HQ.out)
        go_region
        all_goals
          go_wp2
          exact bodyPost_ret (v := .tuple #[gsV t', .agg #[.int .i64 1, .int .u32 aa], .int .i64 ((j : Int) + 1)]) (by simp [results, Try.results38, go_sem, x0, x1, x2, x3, x4, x5, x6, x7, x8, x9, z0, z1, z2, z3, z4, z5, z6, z7, z8, z9, p0, p1, l0, l1, l2, q0, q1, l3]) rfl ⟨by rw [HF.out]; rfl, by
            rw [HF.out]
            have hB := (HA1.out.putS t').fin
            have hX := HX.out
            repeat first
              | with_reducible exact hB
              | with_reducible refine PFin.drew ?_
              | with_reducible refine PFin.new hX ?_ (by omega) _ _
              | with_reducible refine PFin.alloc ?_ _⟩
      have hk1b : (kk == 1) = false := by simpa using h1
      by_cases h0 : kk = 0
      · subst h0
        have HN : Hid (∀ w2, PSt w w2 X m' t' → PRn w w2 X m s n (j + 1) m' t') := fun w2 h2 => by
          have := HL.out.next (w' := w2) hlt (by rw [HR.out]) (by rw [HR.out]; exact h2)
          rw [HR.out] at this
          exact this
        clear h1 hk1b
        go_wp2_with (go_at_call 36; refine (HST.out _ (HL.out.a.pm.alloc _)).mono ?_; rintro e1 w1 ⟨rfl, hR1, hC1⟩; have HA1 : Hid (PSt w w1 X m' sj) := (HL.out.a.alloc _).after hR1 hC1; have HQ : Hid _ := stop_kept HL.out.a.pm.lt hC1; clear x0 x1 x2 x3 x4 x5 x6 x7 x8 x9 hR1 hC1; obtain ⟨q0, q1, qf0, qf1⟩ := stop_cells HQ.out; obtain ⟨x0, x1, x2, x3, x4, x5, x6, x7, x8, x9⟩ := gs_all HA1.out.b0; have xf := gs_fr HA1.out.b0; obtain ⟨z0, z1, z2, z3, z4, z5, z6, z7, z8, z9⟩ := gs_all HA1.out.b1; have zf := gs_fr HA1.out.b1; obtain ⟨p0, p1, pf0, pf1⟩ := stop_cells HA1.out.b2; have l0 := lt_of_block HA1.out.b0; have l1 := lt_of_block HA1.out.b1; have l2 := lt_of_block HA1.out.b2; have l3 := lt_of_block HQ.out)
        go_roundw
        case rel => exact ⟨j + 1, m', t', by go_num, HN.out _ (by
          have hB := HA1.out.putS t'
          repeat first
            | with_reducible exact hB
            | with_reducible refine PSt.drew ?_
            | with_reducible refine PSt.new ?_ (by omega) _ _
            | with_reducible refine PSt.alloc ?_ _)⟩
        case measure => simp [intOf]; omega
      · have hk0b : (kk == 0) = false := by simpa using h0
        have hk0c : (kk != 0) = true := by simpa using h0
        have HF : Hid (runF m s n = (⟨t', kk, aa, m'⟩, j)) := HR.out ▸ HL.out.stop2 hlt (by rw [HR.out]; exact h1) (by rw [HR.out]; exact h0)
        go_wp2_with (go_at_call 36; refine (HST.out _ (HL.out.a.pm.alloc _)).mono ?_; rintro e1 w1 ⟨rfl, hR1, hC1⟩; have HA1 : Hid (PSt w w1 X m' sj) := (HL.out.a.alloc _).after hR1 hC1; have HQ : Hid _ := stop_kept HL.out.a.pm.lt hC1; clear x0 x1 x2 x3 x4 x5 x6 x7 x8 x9 hR1 hC1; obtain ⟨q0, q1, qf0, qf1⟩ := stop_cells HQ.out; obtain ⟨x0, x1, x2, x3, x4, x5, x6, x7, x8, x9⟩ := gs_all HA1.out.b0; have xf := gs_fr HA1.out.b0; obtain ⟨z0, z1, z2, z3, z4, z5, z6, z7, z8, z9⟩ := gs_all HA1.out.b1; have zf := gs_fr HA1.out.b1; obtain ⟨p0, p1, pf0, pf1⟩ := stop_cells HA1.out.b2; have l0 := lt_of_block HA1.out.b0; have l1 := lt_of_block HA1.out.b1; have l2 := lt_of_block HA1.out.b2; have l3 := lt_of_block HQ.out)
        go_region
        all_goals
          go_wp2
          exact bodyPost_ret (v := .tuple #[gsV t', .agg #[.int .i64 kk, .int .u32 aa], .int .i64 j]) (by simp [results, Try.results38, go_sem, x0, x1, x2, x3, x4, x5, x6, x7, x8, x9, z0, z1, z2, z3, z4, z5, z6, z7, z8, z9, p0, p1, l0, l1, l2, q0, q1, l3]) rfl ⟨by rw [HF.out], by
            rw [HF.out]
            have hB := (HA1.out.putS t').fin
            have hX := HX.out
            repeat first
              | with_reducible exact hB
              | with_reducible refine PFin.drew ?_
              | with_reducible refine PFin.new hX ?_ (by omega) _ _
              | with_reducible refine PFin.alloc ?_ _⟩
    · have hjn : j = n := by omega
      subst hjn
      have d0 : decide ((j : Int) < (j : Int)) = false := decide_eq_false (by omega)
      have d1 : decide ((j : Int) < 0) = false := decide_eq_false (by omega)
      have HF : Hid (runF m s j = (⟨sj, 0, 0, mj⟩, j)) := HL.out.last
      obtain ⟨z0, z1, z2, z3, z4, z5, z6, z7, z8, z9⟩ := gs_all HL.out.a.b1
      have zf := gs_fr HL.out.a.b1
      obtain ⟨p0, p1, pf0, pf1⟩ := stop_cells HL.out.a.b2
      have l0 := lt_of_block HL.out.a.b0
      have l1 := lt_of_block HL.out.a.b1
      have l2 := lt_of_block HL.out.a.b2
      go_wp2
      exact bodyPost_ret (v := .tuple #[gsV sj, .agg #[.int .i64 0, .int .u32 0], .int .i64 j]) (by simp [results, Try.results38, go_sem, x0, x1, x2, x3, x4, x5, x6, x7, x8, x9, z0, z1, z2, z3, z4, z5, z6, z7, z8, z9, p0, p1, l0, l1, l2]) rfl ⟨by rw [HF.out], by
        rw [HF.out]
        have hB := HL.out.a.fin
        have hX := HX.out
        repeat first
          | with_reducible exact hB
          | with_reducible refine PFin.drew ?_
          | with_reducible refine PFin.new hX ?_ (by omega) _ _
          | with_reducible refine PFin.alloc ?_ _⟩
theorem run_ok : RunOk := by
  intro X m s n w hpm hm hs hn
  by_cases h : n < 0
  · rw [show n.toNat = 0 by omega]
    exact (prun_neg X m s _ n w hpm hm hs rfl h).mono fun e w' ⟨he, hf⟩ => ⟨he, hf.pm, hf.chg⟩
  · obtain ⟨j, rfl⟩ : ∃ j : Nat, n = j := ⟨n.toNat, by omega⟩
    exact (prun_pos X m s _ j w hpm hm hs rfl hn).mono fun e w' ⟨he, hf⟩ => ⟨he, hf.pm, hf.chg⟩
end Go.Proofs.Ytkgbjpdoigdjnaa
