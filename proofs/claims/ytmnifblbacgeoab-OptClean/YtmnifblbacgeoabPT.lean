import Derived.Test.YtmnifblbacgeoabPC
import Derived.Deep.AppendLies
import Derived.OwnWalk
namespace Go.Proofs.Ytmnifblbacgeoab
open Go.RowKit
set_option maxRecDepth 100000
set_option linter.unusedVariables false
set_option linter.unusedSimpArgs false

set_option maxHeartbeats 1000000 in
theorem twin_any (pc : Nat) (count bytes : Int) (bp : Option Addr) (n cap : Nat) (f : Nat → OpR) (w : World) (hO : OpsR w bp n f) (hby : n * 56 ≤ 140737488355328) :
    Calls Try.prog 12 #[.agg #[.int .u32 pc, .int .i64 count, .int .i64 bytes, .slice bp n cap]] w fun e w' => ∃ bp' cap', e = .returned (.agg #[.int .u32 pc, .int .i64 count, .int .i64 bytes, .slice bp' n cap']) ∧ OpsR w' bp' n f ∧ n ≤ cap' ∧ Below w.heap.size w w' := by
  by_cases hn : n = 0
  · subst hn
    cases bp with
    | none =>
      go_enter Try.func12, Try.ntmps12
      go_wp2_with (at_builtin; refine wpList_app rfl _ _ 23 rfl _ _ (.slice none 0 0) rfl rfl (by simp [Builtin.append_, go_sem]) ?_)
      exact bodyPost_ret (v := .agg #[.int .u32 pc, .int .i64 count, .int .i64 bytes, .slice none 0 0]) (by simp [results, Try.results12, go_sem]) rfl ⟨none, 0, rfl, fun h => by omega, Nat.le_refl _, by (repeat first | with_reducible exact Below.refl _ _ | with_reducible exact hB | with_reducible refine Below.drew ?_ | with_reducible refine Below.alloc ?_ (by first | (simp; done) | (simp; omega) | omega) _ | with_reducible refine Below.setCell ?_ (by first | (simp; done) | (simp; omega) | omega) _)⟩
    | some ad =>
      go_enter Try.func12, Try.ntmps12
      go_wp2_with (at_builtin; refine wpList_app rfl _ _ 23 rfl _ _ (.slice none 0 0) rfl rfl (by simp [Builtin.append_, go_sem]) ?_)
      exact bodyPost_ret (v := .agg #[.int .u32 pc, .int .i64 count, .int .i64 bytes, .slice none 0 0]) (by simp [results, Try.results12, go_sem]) rfl ⟨none, 0, rfl, fun h => by omega, Nat.le_refl _, by (repeat first | with_reducible exact Below.refl _ _ | with_reducible exact hB | with_reducible refine Below.drew ?_ | with_reducible refine Below.alloc ?_ (by first | (simp; done) | (simp; omega) | omega) _ | with_reducible refine Below.setCell ?_ (by first | (simp; done) | (simp; omega) | omega) _)⟩
  · obtain ⟨b, off, rfl, hb, hc⟩ := hO (by omega)
    obtain ⟨i0, hi, hz0, hz1, hz2⟩ := info_parts info160
    have HNW : Hid (∀ j v, (opsL f n)[j]? = some v → ((w.alloc (.cells #[.int .u32 pc, .int .i64 count, .int .i64 bytes, .slice (some ⟨b, off, none⟩) n cap] 25)).alloc (.cells #[.int .u32 0, .int .i64 0, .int .i64 0, .slice none 0 0] 25)).cell? ((⟨b, off, none⟩ : Addr).add j) = some v) := show ∀ j v, _ from fun j v hv => by
      obtain ⟨hj, rfl⟩ := opsL_at f n j v hv
      rw [Addr.add_mid, show off + j = (off + j / 7 * 7) + j % 7 by omega]
      exact (((hc (j / 7) (by omega)).below (wk_bel w _ _) hb).cells (j % 7) (by omega))
    have HPOS : Hid (0 < n) := show 0 < n by omega
    have C3 : Hid (0 + n ≤ maxLen) := show 0 + n ≤ maxLen by unfold maxLen; omega
    have C4 : Hid ((0 + n) * 56 ≤ 140737488355328) := show (0 + n) * 56 ≤ 140737488355328 by omega
    have C5 : Hid (w.heap.size ≤ ((w.alloc (.cells #[.int .u32 pc, .int .i64 count, .int .i64 bytes, .slice (some ⟨b, off, none⟩) n cap] 25)).alloc (.cells #[.int .u32 0, .int .i64 0, .int .i64 0, .slice none 0 0] 25)).heap.size) := show w.heap.size ≤ _ by simp; omega
    have HBY : Hid _ := hby
    have HB : Hid _ := hb
    clear hO hc
    go_enter Try.func12, Try.ntmps12
    go_wp2_with (at_builtin; refine wpList_append_lies _ rfl _ _ _ rfl w.heap.size 67 i0 _ 7 56 Try.underlying23 hi hz0 hz1 hz2 rfl (by decide) (.slice none 0 0) 0 [] (by rfl) (World.ownsRow_nil _ _ _ _) ⟨b, off, none⟩ n cap (opsL f n) (by rfl) (opsL_len f n) HNW.out (opsL_one f n) HPOS.out C3.out C4.out C5.out (w.heap.size + 1 + 1) (by simp) ?_; intro g cap2 w2 hown hgr hgg hlt; rw [Nat.zero_add] at *; have HOW : Hid _ := hown; have HGR : Hid _ := Below.grown (Below.refl _ _) hgr (Nat.le_refl _) (fun k hk => by cases hk); have HG : Hid (g = w.heap.size + 1 + 1) := (hgg.elim (fun h => by cases h) id); clear hown hgr hgg; obtain ⟨B2, B5, BB1⟩ := keep2 HGR.out; have HB2 : Hid _ := B2; have HB5 : Hid _ := B5; have HBB : Hid _ := BB1; clear B2 B5 BB1; have e0 : w2.cell? ⟨w.heap.size, 0, none⟩ = some (.int .u32 pc) := row_cell HB2.out 0; have e1 : w2.cell? ⟨w.heap.size, 1, none⟩ = some (.int .i64 count) := row_cell HB2.out 1; have e2 : w2.cell? ⟨w.heap.size, 2, none⟩ = some (.int .i64 bytes) := row_cell HB2.out 2; have e3 : w2.cell? ⟨w.heap.size, 3, none⟩ = some (.slice (some ⟨b, off, none⟩) n cap) := row_cell HB2.out 3; have q0 : w2.cell? ⟨w.heap.size + 1, 0, none⟩ = some (.int .u32 0) := row_cell HB5.out 0; have q1 : w2.cell? ⟨w.heap.size + 1, 1, none⟩ = some (.int .i64 0) := row_cell HB5.out 1; have q2 : w2.cell? ⟨w.heap.size + 1, 2, none⟩ = some (.int .i64 0) := row_cell HB5.out 2; have q3 : w2.cell? ⟨w.heap.size + 1, 3, none⟩ = some (.slice none 0 0) := row_cell HB5.out 3; have fr0 := row_fr HB2.out; have fr1 := row_fr HB5.out; have l2 := row_lt HB2.out; have l5 := row_lt HB5.out)
    have hO2 := owns_ops (f := f) (base := w.heap.size) (w := w2) (g := g) (n := n) (cap := cap2) HOW.out HPOS.out
    have hgn := HG.out
    exact bodyPost_ret (v := .agg #[.int .u32 pc, .int .i64 count, .int .i64 bytes, .slice (some ⟨g, 0, none⟩) n cap2]) (by simp [results, Try.results12, go_sem, l2, l5, fr0, fr1, e0, e1, e2, e3, q0, q1, q2, q3]) rfl ⟨_, cap2, rfl, by
      have hB := hO2.1
      repeat (first | with_reducible exact hB | with_reducible refine OpsR.set ?_ (by omega) _ _), hO2.2, by
      have hB := HBB.out
      (repeat first | with_reducible exact Below.refl _ _ | with_reducible exact hB | with_reducible refine Below.drew ?_ | with_reducible refine Below.alloc ?_ (by first | (simp; done) | (simp; omega) | omega) _ | with_reducible refine Below.setCell ?_ (by first | (simp; done) | (simp; omega) | omega) _)⟩
end Go.Proofs.Ytmnifblbacgeoab
