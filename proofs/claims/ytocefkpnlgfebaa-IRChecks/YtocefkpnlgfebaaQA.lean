import Derived.Test.YtocefkpnlgfebaaCR
import Derived.Test.YtocefkpnlgfebaaPC
import Derived.Deep.AppendLies
import Derived.OwnWalk
namespace Go.Proofs.Ytocefkpnlgfebaa
open Go.RowKit
set_option maxRecDepth 100000
set_option linter.unusedVariables false
set_option linter.unusedSimpArgs false

set_option maxHeartbeats 1000000 in
theorem twin_any (pc : Nat) (count bytes : Int) (bp : Option Addr) (n cap : Nat) (f : Nat → OpR) (w : World) (hO : OpsR w bp n f) (hby : n * 56 ≤ 140737488355328) :
    Calls Try.prog 40 #[.agg #[.int .u32 pc, .int .i64 count, .int .i64 bytes, .slice bp n cap]] w fun e w' => ∃ bp' cap', e = .returned (.agg #[.int .u32 pc, .int .i64 count, .int .i64 bytes, .slice bp' n cap']) ∧ OpsR w' bp' n f ∧ n ≤ cap' ∧ Below w.heap.size w w' := by
  by_cases hn : n = 0
  · subst hn
    cases bp with
    | none =>
      go_enter Try.func40, Try.ntmps40
      go_wp2_with (at_builtin; refine wpList_app rfl _ _ 80 rfl _ _ (.slice none 0 0) rfl rfl (by simp [Builtin.append_, go_sem]) ?_)
      exact bodyPost_ret (v := .agg #[.int .u32 pc, .int .i64 count, .int .i64 bytes, .slice none 0 0]) (by simp [results, Try.results40, go_sem]) rfl ⟨none, 0, rfl, fun h => by omega, Nat.le_refl _, by (repeat first | with_reducible exact Below.refl _ _ | with_reducible exact hB | with_reducible refine Below.drew ?_ | with_reducible refine Below.alloc ?_ (by first | (simp; done) | (simp; omega) | omega) _ | with_reducible refine Below.setCell ?_ (by first | (simp; done) | (simp; omega) | omega) _)⟩
    | some ad =>
      go_enter Try.func40, Try.ntmps40
      go_wp2_with (at_builtin; refine wpList_app rfl _ _ 80 rfl _ _ (.slice none 0 0) rfl rfl (by simp [Builtin.append_, go_sem]) ?_)
      exact bodyPost_ret (v := .agg #[.int .u32 pc, .int .i64 count, .int .i64 bytes, .slice none 0 0]) (by simp [results, Try.results40, go_sem]) rfl ⟨none, 0, rfl, fun h => by omega, Nat.le_refl _, by (repeat first | with_reducible exact Below.refl _ _ | with_reducible exact hB | with_reducible refine Below.drew ?_ | with_reducible refine Below.alloc ?_ (by first | (simp; done) | (simp; omega) | omega) _ | with_reducible refine Below.setCell ?_ (by first | (simp; done) | (simp; omega) | omega) _)⟩
  · obtain ⟨b, off, rfl, hb, hc⟩ := hO (by omega)
    obtain ⟨i0, hi, hz0, hz1, hz2⟩ := info_parts info160
    have HNW : Hid (∀ j v, (opsL f n)[j]? = some v → ((w.alloc (.cells #[.int .u32 pc, .int .i64 count, .int .i64 bytes, .slice (some ⟨b, off, none⟩) n cap] 82)).alloc (.cells #[.int .u32 0, .int .i64 0, .int .i64 0, .slice none 0 0] 82)).cell? ((⟨b, off, none⟩ : Addr).add j) = some v) := show ∀ j v, _ from fun j v hv => by
      obtain ⟨hj, rfl⟩ := opsL_at f n j v hv
      rw [Addr.add_mid, show off + j = (off + j / 7 * 7) + j % 7 by omega]
      exact (((hc (j / 7) (by omega)).below (wk_bel w _ _) hb).cells (j % 7) (by omega))
    have HPOS : Hid (0 < n) := show 0 < n by omega
    have C3 : Hid (0 + n ≤ maxLen) := show 0 + n ≤ maxLen by unfold maxLen; omega
    have C4 : Hid ((0 + n) * 56 ≤ 140737488355328) := show (0 + n) * 56 ≤ 140737488355328 by omega
    have C5 : Hid (w.heap.size ≤ ((w.alloc (.cells #[.int .u32 pc, .int .i64 count, .int .i64 bytes, .slice (some ⟨b, off, none⟩) n cap] 82)).alloc (.cells #[.int .u32 0, .int .i64 0, .int .i64 0, .slice none 0 0] 82)).heap.size) := show w.heap.size ≤ _ by simp; omega
    have HBY : Hid _ := hby
    have HB : Hid _ := hb
    clear hO hc
    go_enter Try.func40, Try.ntmps40
    go_wp2_with (at_builtin; refine wpList_append_lies _ rfl _ _ _ rfl w.heap.size 163 i0 _ 7 56 Try.underlying80 hi hz0 hz1 hz2 rfl (by decide) (.slice none 0 0) 0 [] (by rfl) (World.ownsRow_nil _ _ _ _) ⟨b, off, none⟩ n cap (opsL f n) (by rfl) (opsL_len f n) HNW.out (opsL_one f n) HPOS.out C3.out C4.out C5.out (w.heap.size + 1 + 1) (by simp) ?_; intro g cap2 w2 hown hgr hgg hlt; rw [Nat.zero_add] at *; have HOW : Hid _ := hown; have HGR : Hid _ := Below.grown (Below.refl _ _) hgr (Nat.le_refl _) (fun k hk => by cases hk); have HG : Hid (g = w.heap.size + 1 + 1) := (hgg.elim (fun h => by cases h) id); clear hown hgr hgg; obtain ⟨B2, B5, BB1⟩ := keep2 HGR.out; have HB2 : Hid _ := B2; have HB5 : Hid _ := B5; have HBB : Hid _ := BB1; clear B2 B5 BB1; have e0 : w2.cell? ⟨w.heap.size, 0, none⟩ = some (.int .u32 pc) := row_cell HB2.out 0; have e1 : w2.cell? ⟨w.heap.size, 1, none⟩ = some (.int .i64 count) := row_cell HB2.out 1; have e2 : w2.cell? ⟨w.heap.size, 2, none⟩ = some (.int .i64 bytes) := row_cell HB2.out 2; have e3 : w2.cell? ⟨w.heap.size, 3, none⟩ = some (.slice (some ⟨b, off, none⟩) n cap) := row_cell HB2.out 3; have q0 : w2.cell? ⟨w.heap.size + 1, 0, none⟩ = some (.int .u32 0) := row_cell HB5.out 0; have q1 : w2.cell? ⟨w.heap.size + 1, 1, none⟩ = some (.int .i64 0) := row_cell HB5.out 1; have q2 : w2.cell? ⟨w.heap.size + 1, 2, none⟩ = some (.int .i64 0) := row_cell HB5.out 2; have q3 : w2.cell? ⟨w.heap.size + 1, 3, none⟩ = some (.slice none 0 0) := row_cell HB5.out 3; have fr0 := row_fr HB2.out; have fr1 := row_fr HB5.out; have l2 := row_lt HB2.out; have l5 := row_lt HB5.out)
    have hO2 := owns_ops (f := f) (base := w.heap.size) (w := w2) (g := g) (n := n) (cap := cap2) HOW.out HPOS.out
    have hgn := HG.out
    exact bodyPost_ret (v := .agg #[.int .u32 pc, .int .i64 count, .int .i64 bytes, .slice (some ⟨g, 0, none⟩) n cap2]) (by simp [results, Try.results40, go_sem, l2, l5, fr0, fr1, e0, e1, e2, e3, q0, q1, q2, q3]) rfl ⟨_, cap2, rfl, by
      have hB := hO2.1
      repeat (first | with_reducible exact hB | with_reducible refine OpsR.set ?_ (by omega) _ _), hO2.2, by
      have hB := HBB.out
      (repeat first | with_reducible exact Below.refl _ _ | with_reducible exact hB | with_reducible refine Below.drew ?_ | with_reducible refine Below.alloc ?_ (by first | (simp; done) | (simp; omega) | omega) _ | with_reducible refine Below.setCell ?_ (by first | (simp; done) | (simp; omega) | omega) _)⟩
set_option maxHeartbeats 2000000 in
theorem sameOps_any (bp bp' : Option Addr) (n cap cap' : Nat) (f : Nat → OpR) (w : World) (h : OpsR w bp n f) (h' : OpsR w bp' n f) (hn : n < 9223372036854775807) :
    Calls Try.prog 43 #[.slice bp n cap, .slice bp' n cap'] w fun e w' => e = .returned (.bool true) ∧ Below w.heap.size w w' := by
  have HH : Hid (OpsR w bp n f) := h
  have HH' : Hid (OpsR w bp' n f) := h'
  have n0 : (0 : Int) ≤ (n : Int) := by omega
  have nb : (n : Int) < 9223372036854775807 := by omega
  clear h h'
  go_enter Try.func43, Try.ntmps43
  go_wp2
  go_loopw [13] (fun i wr => ∃ j : Nat, i = .int .i64 j ∧ j ≤ n ∧ Below w.heap.size w wr) (fun i _ => n - (intOf i).toNat)
  case atStart => exact ⟨0, rfl, by omega, Below.refl _ _⟩
  case round =>
    obtain ⟨j, rfl, hj, hW⟩ := hrel
    have HWr : Hid _ := hW
    clear hW
    by_cases hlt : j < n
    · have hji : (j : Int) < (n : Int) := by omega
      have dj : decide ((j : Int) < (n : Int)) = true := decide_eq_true hji
      have j0 : (0 : Int) ≤ (j : Int) := by omega
      have HLT : Hid _ := hlt
      obtain ⟨b, off, rfl, hb, hc⟩ := HH.out (by omega)
      obtain ⟨b', off', rfl, hb', hc'⟩ := HH'.out (by omega)
      obtain ⟨o, HOO⟩ : ∃ o, Hid (f j = o) := ⟨_, rfl⟩
      obtain ⟨z0, z1, z2, z3, z4, z5, z6⟩ : OpAt wr b (off + j * 7) o := (HOO.out ▸ hc j hlt).below HWr.out hb
      obtain ⟨y0, y1, y2, y3, y4, y5, y6⟩ : OpAt wr b' (off' + j * 7) o := (HOO.out ▸ hc' j hlt).below HWr.out hb'
      clear hc hc' hlt hb hb'
      go_wp2
      go_region
      all_goals go_wp2
      all_goals go_round
      case rel => exact ⟨j + 1, by go_num, HLT.out, HWr.out.drew⟩
      case measure => have := HLT.out; simp [intOf]; omega
    · obtain rfl : j = n := by omega
      have dj : decide ((j : Int) < (j : Int)) = false := decide_eq_false (by omega)
      clear hlt hj
      go_wp2
      go_ret
      exact ⟨rfl, HWr.out⟩
structure LW (w wx : World) (V pc : Nat) (count bytes : Int) (bp bp' : Option Addr) (n cap cap' : Nat) (f : Nat → OpR) : Prop where
  b2 : wx.heap[w.heap.size]? = some (.cells #[.int .u32 pc, .int .i64 count, .int .i64 bytes, .slice bp n cap] 82)
  b5 : wx.heap[V]? = some (.cells #[.int .u32 pc, .int .i64 count, .int .i64 bytes, .slice bp' n cap'] 82)
  bel : Below w.heap.size w wx
  o : OpsR wx bp n f
  o' : OpsR wx bp' n f
theorem LW.next {w wx w' : World} {V pc : Nat} {count bytes : Int} {bp bp' : Option Addr} {n cap cap' : Nat} {f : Nat → OpR} (h : LW w wx V pc count bytes bp bp' n cap cap' f) (k : Below wx.heap.size wx w') : LW w w' V pc count bytes bp bp' n cap cap' f :=
  ⟨(k.block _ (row_lt h.b2)).trans h.b2, (k.block _ (row_lt h.b5)).trans h.b5, h.bel.trans (k.mono (Nat.le_of_lt (row_lt h.b2))), h.o.below k (Nat.le_refl _), h.o'.below k (Nat.le_refl _)⟩

set_option maxHeartbeats 4000000 in
theorem checks_walk (pc : Nat) (count bytes : Int) (bp : Option Addr) (n cap : Nat) (f : Nat → OpR) (kind : Int) (w : World) (hO : OpsR w bp n f) (hby : n * 56 ≤ 140737488355328) (hcap : n ≤ cap) :
    Calls Try.prog 11 #[.agg #[.int .u32 pc, .int .i64 count, .int .i64 bytes, .slice bp n cap], .int .i64 kind] w fun e w' => e = .returned (.bool true) ∧ Below w.heap.size w w' := by
  have HO : Hid (OpsR (w.alloc (.cells #[.int .u32 pc, .int .i64 count, .int .i64 bytes, .slice bp n cap] 82)) bp n f) := hO.below (wk_bel1 w _) (Nat.le_refl _)
  have HBY : Hid _ := hby
  have HCAP : Hid _ := hcap
  have HN : Hid (n < 9223372036854775807) := show n < 9223372036854775807 by omega
  obtain ⟨⟨e1, e2⟩, HE⟩ : ∃ E, Hid (checkF count bytes n f = E) := ⟨_, rfl⟩
  obtain ⟨g, HG⟩ : ∃ g, Hid ((rr kind).gives = g) := ⟨_, rfl⟩
  have HG2 : Hid (rgiv kind = g) := (giv_eq kind).trans HG.out
  clear hO hby hcap
  go_enter Try.func11, Try.ntmps11
  go_wp2_with (first
    | (go_at_call 40; refine (twin_any pc count bytes bp n cap f _ HO.out HBY.out).mono ?_; rintro e w1 ⟨bp', cap', rfl, hO', hc', hB'⟩; have HB2 : Hid (w1.heap[w.heap.size]? = some (.cells #[.int .u32 pc, .int .i64 count, .int .i64 bytes, .slice bp n cap] 82)) := (hB'.block _ (by simp)).trans (heap_alloc_last w _); have HC' : Hid _ := hc'; have l2 := row_lt HB2.out; have l2' := Nat.lt_succ_of_lt l2; have H1 : Hid (LW w (w1.alloc (.cells #[.int .u32 pc, .int .i64 count, .int .i64 bytes, .slice bp' n cap'] 82)) w1.heap.size pc count bytes bp bp' n cap cap' f) := ⟨(al_old _ _ _ l2).trans HB2.out, heap_alloc_last w1 _, ((wk_bel1 w _).trans (hB'.mono (by simp))).alloc (Nat.le_of_lt l2) _, (HO.out.below hB' (Nat.le_refl _)).below (wk_bel1 w1 _) (Nat.le_refl _), hO'.below (wk_bel1 w1 _) (Nat.le_refl _)⟩; have x0 : w1.cell? ⟨w.heap.size, 0, none⟩ = some (.int .u32 pc) := row_cell HB2.out 0; have x1 : w1.cell? ⟨w.heap.size, 1, none⟩ = some (.int .i64 count) := row_cell HB2.out 1; have x2 : w1.cell? ⟨w.heap.size, 2, none⟩ = some (.int .i64 bytes) := row_cell HB2.out 2; have x3 : w1.cell? ⟨w.heap.size, 3, none⟩ = some (.slice bp n cap) := row_cell HB2.out 3; clear hO' hc' hB')
    | (go_at_call 41; refine (check_any pc count bytes bp n cap f _ H1.out.o HCAP.out HN.out).mono ?_; rintro e w2 ⟨rfl, h2⟩; rw [HE.out]; have H2 : Hid _ := H1.out.next h2; have ax0 : w2.cell? ⟨w.heap.size, 0, none⟩ = some (.int .u32 pc) := row_cell H2.out.b2 0; have ax1 : w2.cell? ⟨w.heap.size, 1, none⟩ = some (.int .i64 count) := row_cell H2.out.b2 1; have ax2 : w2.cell? ⟨w.heap.size, 2, none⟩ = some (.int .i64 bytes) := row_cell H2.out.b2 2; have ax3 : w2.cell? ⟨w.heap.size, 3, none⟩ = some (.slice bp n cap) := row_cell H2.out.b2 3; have ay0 : w2.cell? ⟨w1.heap.size, 0, none⟩ = some (.int .u32 pc) := row_cell H2.out.b5 0; have ay1 : w2.cell? ⟨w1.heap.size, 1, none⟩ = some (.int .i64 count) := row_cell H2.out.b5 1; have ay2 : w2.cell? ⟨w1.heap.size, 2, none⟩ = some (.int .i64 bytes) := row_cell H2.out.b5 2; have ay3 : w2.cell? ⟨w1.heap.size, 3, none⟩ = some (.slice bp' n cap') := row_cell H2.out.b5 3; clear h2 x0 x1 x2 x3)
    | (go_at_call 42; refine (rcheck_any pc count bytes bp' n cap' f _ H2.out.o' HN.out).mono ?_; rintro e w3 ⟨rfl, h3⟩; rw [HE.out]; have H3 : Hid _ := H2.out.next h3; have bx0 : w3.cell? ⟨w.heap.size, 0, none⟩ = some (.int .u32 pc) := row_cell H3.out.b2 0; have bx1 : w3.cell? ⟨w.heap.size, 1, none⟩ = some (.int .i64 count) := row_cell H3.out.b2 1; have bx2 : w3.cell? ⟨w.heap.size, 2, none⟩ = some (.int .i64 bytes) := row_cell H3.out.b2 2; have bx3 : w3.cell? ⟨w.heap.size, 3, none⟩ = some (.slice bp n cap) := row_cell H3.out.b2 3; have by0 : w3.cell? ⟨w1.heap.size, 0, none⟩ = some (.int .u32 pc) := row_cell H3.out.b5 0; have by1 : w3.cell? ⟨w1.heap.size, 1, none⟩ = some (.int .i64 count) := row_cell H3.out.b5 1; have by2 : w3.cell? ⟨w1.heap.size, 2, none⟩ = some (.int .i64 bytes) := row_cell H3.out.b5 2; have by3 : w3.cell? ⟨w1.heap.size, 3, none⟩ = some (.slice bp' n cap') := row_cell H3.out.b5 3; clear h3 ax0 ay0 ax1 ay1 ax2 ay2 ax3 ay3)
    | (go_at_call 43; refine (sameOps_any bp bp' n cap cap' f _ H3.out.o H3.out.o' HN.out).mono ?_; rintro e w4 ⟨rfl, h4⟩; have H4 : Hid _ := H3.out.next h4; clear h4 bx0 by0 bx1 by1 bx2 by2 bx3 by3)
    | (go_at_call 44; refine (pgives_any kind _).mono ?_; rintro e w5 ⟨rfl, h5⟩; rw [HG.out]; have H5 : Hid _ := H4.out.next h5; clear h5)
    | (go_at_call 45; refine (rgives_any kind _).mono ?_; rintro e w6 ⟨rfl, rfl⟩; rw [HG2.out]))
  go_ret
  exact ⟨rfl, H5.out.bel⟩
end Go.Proofs.Ytocefkpnlgfebaa
