import Derived.Test.YtkgbjpdoigdjnaaEV
import Derived.Test.YtkgbjpdoigdjnaaER
namespace Go.Proofs.Ytkgbjpdoigdjnaa
open Go.RowKit
set_option maxRecDepth 100000
set_option linter.unusedVariables false
set_option linter.unusedSimpArgs false
/-- The walk's own answer cell. -/
structure PvA (w wx : World) (P V X n : Nat) (q : Sq) : Prop where
  r : WkW wx P V X n q
  b4 : wx.heap[w.heap.size]? = some (.cells #[.int .i64 0, .int .u32 0, .int .u32 0, .int .i64 0] 93)
  chg : Chg [P, V, X] w wx
  lk : P < w.heap.size ∧ V < w.heap.size ∧ X < w.heap.size
theorem PvA.below {w wx w' : World} {P V X n : Nat} {q : Sq} (h : PvA w wx P V X n q) (b : Below wx.heap.size wx w') : PvA w w' P V X n q :=
  ⟨h.r.below b, (b.block _ (row_lt h.b4)).trans h.b4, h.chg.trans (Chg.of_below _ b), h.lk⟩
theorem PvA.next {w wx w' : World} {P V X n : Nat} {q q' : Sq} (h : PvA w wx P V X n q) (c : Chg [P, V, X] wx w') (k : WkW w' P V X n q') : PvA w w' P V X n q' := by
  obtain ⟨h1, h2, h3⟩ := h.lk
  exact ⟨k, (c.block _ (row_lt h.b4) (by simp; omega)).trans h.b4, h.chg.trans c, h.lk⟩
theorem WkW.setN {w : World} {P V X n B o : Nat} {q : Sq} (h : WkW w P V X n q) (hP : P ≠ B) (hV : V ≠ B) (hX : X ≠ B) (u : Value) : WkW (w.setCell ⟨B, o, none⟩ u) P V X n q :=
  ⟨h.k.set hP hV u trivial, h.fP.set _ _, h.fV.set _ _, h.m.of_block (blk_other hX u), h.n0, h.pv, h.px, h.vx⟩
theorem WkW.drew {w : World} {P V X n : Nat} {q : Sq} (h : WkW w P V X n q) : WkW w.drew P V X n q := h.below (Below.refl _ _).drew
theorem WkW.alloc {w : World} {P V X n : Nat} {q : Sq} (h : WkW w P V X n q) (x : Obj) : WkW (w.alloc x) P V X n q := h.below ((Below.refl _ _).alloc (Nat.le_refl _) _)
set_option maxHeartbeats 4000000 in
theorem leave_any (P V X n : Nat) (bp : Option Addr) (cap : Nat) (f : Nat → OpR) (q : Sq) (w : World) (hH : HoldsOk) (hO : OpsR w bp n f) (hb : ∀ b off, bp = some ⟨b, off, none⟩ → b ∉ [P, V, X]) (hg : ∀ j, j < n → OpGood n (f j) ∧ (f j).k < 4294967296) (hn : n ≤ 2048) (hq : StOk q) (h : WkW w P V X n q) :
    Calls Try.prog 106 #[.pointer (some ⟨P, 0, none⟩), .slice bp n cap] w fun e w' => e = .returned (exR (runO f n 0 q).2.1) ∧ WkW w' P V X n (runO f n 0 q).1 ∧ Chg [P, V, X] w w' := by
  obtain ⟨R, HR⟩ : ∃ R, Hid (runO f n 0 q = R) := ⟨_, rfl⟩
  rw [HR.out]
  have HH : Hid _ := hH
  have HO : Hid (OpsR w bp n f) := hO
  have HBN : Hid _ := hb
  have HG : Hid _ := hg
  have HN : Hid _ := hn
  have HQ : Hid _ := hq
  have lk : P < w.heap.size ∧ V < w.heap.size ∧ X < w.heap.size := ⟨h.lP, h.lV, h.m.lt⟩
  have HW : Hid (PvA w (w.alloc (.cells #[.int .i64 0, .int .u32 0, .int .u32 0, .int .i64 0] 93)) P V X n q) := ⟨h.alloc _, heap_alloc_last w _, Chg.of_below _ ((Below.refl _ _).alloc (Nat.le_refl _) _), lk⟩
  have HLK : Hid _ := lk
  have n1 : (n : Int) ≤ 2048 := by omega
  have n0 : (0 : Int) ≤ (n : Int) := by omega
  clear hH hO hb hg hq h lk
  go_enter Try.func106, Try.ntmps106
  go_wp2
  go_loopw [11] (fun i' wr => ∃ (j : Nat) (q' : Sq), i' = .int .i64 j ∧ j ≤ n ∧ runO f (n - j) j q' = R ∧ StOk q' ∧ PvA w wr P V X n q') (fun i _ => n - (intOf i).toNat)
  case atStart => exact ⟨0, q, rfl, by omega, HR.out, HQ.out, HW.out⟩
  case round =>
    obtain ⟨j, q', rfl, hj, hsc, hq', hW⟩ := hrel
    have HSC : Hid _ := hsc
    have HQ' : Hid _ := hq'
    have HWr : Hid _ := hW
    have l4 := row_lt hW.b4
    have r0 : wr.cell? ⟨w.heap.size, 0, none⟩ = some (.int .i64 0) := row_cell hW.b4 0
    have r1 : wr.cell? ⟨w.heap.size, 1, none⟩ = some (.int .u32 0) := row_cell hW.b4 1
    have r2 : wr.cell? ⟨w.heap.size, 2, none⟩ = some (.int .u32 0) := row_cell hW.b4 2
    have r3 : wr.cell? ⟨w.heap.size, 3, none⟩ = some (.int .i64 0) := row_cell hW.b4 3
    have rf := row_fr hW.b4
    clear hsc hW HW hq'
    by_cases hlt : j < n
    · have hji : (j : Int) < (n : Int) := by omega
      have dj : decide ((j : Int) < (n : Int)) = true := decide_eq_true hji
      have j0 : (0 : Int) ≤ (j : Int) := by omega
      have hstep : n - j = (n - (j + 1)) + 1 := by omega
      have HLT : Hid _ := hlt
      obtain ⟨b, off, rfl, hb, hc⟩ := (OpsR.chg HO.out HBN.out HWr.out.chg) (by omega)
      obtain ⟨o, HOO⟩ : ∃ o, Hid (f j = o) := ⟨_, rfl⟩
      obtain ⟨z0, z1, z2, z3, z4, z5, z6⟩ : OpAt wr b (off + j * 7) o := HOO.out ▸ hc j hlt
      obtain ⟨L, HL⟩ : ∃ L, Hid (leftO o q' = L) := ⟨_, rfl⟩
      have HST : Hid ((if leftO o q' then (nextO o j q', exO o q', (j : Int)) else runO f (n - (j + 1)) (j + 1) (nextO o j q')) = R) := by
        show _ = _
        have := hstep ▸ HSC.out
        simp only [runO, HOO.out] at this
        exact this
      have HCALL : Hid (∀ W, Below wr.heap.size wr W → Calls Try.prog 142 #[.pointer (some ⟨P, 0, none⟩), .int .i64 j, .agg #[.int .i64 o.kind, .int .i64 o.w, .int .i64 o.a, .int .i64 o.b, .int .i64 o.c, .int .u32 o.k, .int .i64 o.n]] W fun e w' => e = .returned (.tuple #[exR (exO o q'), .bool L]) ∧ PvA w w' P V X n (nextO o j q') ∧ Chg [P, V, X] W w') := show ∀ W, _ from fun W hW => by
        have hg := HOO.out ▸ HG.out j HLT.out
        refine (pdo_any P V X n j o q' W HH.out hg.1 HN.out HQ'.out hg.2 HLT.out (HWr.out.r.below hW)).mono ?_
        rintro e w' ⟨rfl, h1, h2⟩
        exact ⟨by rw [HL.out], (HWr.out.below hW).next h2 h1, h2⟩
      obtain ⟨x, HX⟩ : ∃ x, Hid (exO o q' = x) := ⟨_, rfl⟩
      rw [HX.out] at HCALL
      have HNX : Hid (StOk (nextO o j q')) := nextO_ok o j q' HQ'.out (HOO.out ▸ HG.out j HLT.out).2
      clear hc hlt hb hstep
      cases L with
      | true =>
        have HEND : Hid ((nextO o j q', x, (j : Int)) = R) := by
          show _ = _
          have := HST.out
          rw [if_pos HL.out, HX.out] at this
          exact this
        go_wp2_with (go_at_call 142; refine (HCALL.out _ ?_).mono ?_; (focus (exact (Below.refl _ _).alloc (Nat.le_refl _) _)); rintro e w2 ⟨rfl, h2, h3⟩; have H2 : Hid _ := h2; have l4 := row_lt h2.b4; have r0 : w2.cell? ⟨w.heap.size, 0, none⟩ = some (.int .i64 0) := row_cell h2.b4 0; have r1 : w2.cell? ⟨w.heap.size, 1, none⟩ = some (.int .u32 0) := row_cell h2.b4 1; have r2 : w2.cell? ⟨w.heap.size, 2, none⟩ = some (.int .u32 0) := row_cell h2.b4 2; have r3 : w2.cell? ⟨w.heap.size, 3, none⟩ = some (.int .i64 0) := row_cell h2.b4 3; have rf := row_fr h2.b4; clear h2 h3 z0 z1 z2 z3 z4 z5 z6)
        have hR := HEND.out
        obtain ⟨lP, lV, lX⟩ := HLK.out
        subst hR
        exact bodyPost_ret (v := exR x) (by simp [results, Try.results106, go_sem, r0, r1, r2, r3, rf, l4]) rfl ⟨rfl, by
          have hB := H2.out.r
          (repeat first | with_reducible exact hB | with_reducible refine WkW.drew ?_ | with_reducible refine WkW.alloc ?_ _ | with_reducible refine WkW.setN ?_ (by omega) (by omega) (by omega) _), by
          have hC := H2.out.chg
          (repeat first | with_reducible exact hC | with_reducible refine Chg.drewC ?_ | with_reducible refine Chg.allocC ?_ _ | with_reducible refine Chg.setN ?_ (by omega))⟩
      | false =>
        have HEND : Hid (runO f (n - (j + 1)) (j + 1) (nextO o j q') = R) := by
          show _ = _
          have := HST.out
          rw [if_neg (by simp [HL.out])] at this
          exact this
        go_wp2_with (go_at_call 142; refine (HCALL.out _ ?_).mono ?_; (focus (exact (Below.refl _ _).alloc (Nat.le_refl _) _)); rintro e w2 ⟨rfl, h2, h3⟩; have H2 : Hid _ := h2; clear h2 h3 z0 z1 z2 z3 z4 z5 z6)
        exact ⟨⟨j + 1, nextO o j q', by go_num, HLT.out, HEND.out, HNX.out, H2.out.below ((Below.refl _ _).alloc (Nat.le_refl _) _)⟩, by have := HLT.out; simp [intOf]; omega⟩
    · obtain rfl : j = n := by omega
      have dj : decide ((j : Int) < (j : Int)) = false := decide_eq_false (by omega)
      have HST : Hid ((q', (⟨0, 0, 0, 0⟩ : ExR), (-1 : Int)) = R) := by
        show _ = _
        have := HSC.out
        rw [Nat.sub_self] at this
        exact this
      clear hlt hj
      go_wp2
      have hR := HST.out
      obtain ⟨lP, lV, lX⟩ := HLK.out
      subst hR
      exact bodyPost_ret (v := exR ⟨0, 0, 0, 0⟩) (by simp [results, Try.results106, go_sem, r0, r1, r2, r3, rf, l4]) rfl ⟨rfl, by
        have hB := HWr.out.r
        (repeat first | with_reducible exact hB | with_reducible refine WkW.drew ?_ | with_reducible refine WkW.alloc ?_ _ | with_reducible refine WkW.setN ?_ (by omega) (by omega) (by omega) _), by
        have hC := HWr.out.chg
        (repeat first | with_reducible exact hC | with_reducible refine Chg.drewC ?_ | with_reducible refine Chg.allocC ?_ _ | with_reducible refine Chg.setN ?_ (by omega))⟩
end Go.Proofs.Ytkgbjpdoigdjnaa
