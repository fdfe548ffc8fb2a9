import Derived.Test.YtkgbjpdoigdjnaaC1
import Derived.Test.YtkgbjpdoigdjnaaJ33
import Derived.Test.YtkgbjpdoigdjnaaJ34
import Derived.Test.YtkgbjpdoigdjnaaEG
namespace Go.Proofs.Ytkgbjpdoigdjnaa
open Go.RowKit
set_option maxRecDepth 100000
set_option linter.unusedVariables false
set_option linter.unusedSimpArgs false

set_option maxHeartbeats 2000000 in
theorem sameOps_any (bp bp' : Option Addr) (n cap cap' : Nat) (f : Nat → OpR) (w : World) (h : OpsR w bp n f) (h' : OpsR w bp' n f) (hn : n < 9223372036854775807) :
    Calls Try.prog 43 #[.slice bp n cap, .slice bp' n cap'] w fun e w' => e = .returned (.bool true) ∧ Below w.heap.size w w' := by
  have HH : Hid (OpsR w bp n f) := h
  have HH' : Hid (OpsR w bp' n f) := h'
  have n0 : (0 : Int) ≤ (n : Int) := by omega
  have nb : (n : Int) < 9223372036854775807 := by omega
  clear h h'
  go_enter Try.func43, Try.ntmps43
  go_wp2
  go_loopw [13] (fun i wr => ∃ j : Nat, i = .int .i64 j ∧ j ≤ n ∧ Below w.heap.size w wr) (fun i _ => n - (intOf i).toNat)
  case atStart => exact ⟨0, rfl, by omega, Below.refl _ _⟩
  case round =>
    obtain ⟨j, rfl, hj, hW⟩ := hrel
    have HWr : Hid _ := hW
    clear hW
    by_cases hlt : j < n
    · have hji : (j : Int) < (n : Int) := by omega
      have dj : decide ((j : Int) < (n : Int)) = true := decide_eq_true hji
      have j0 : (0 : Int) ≤ (j : Int) := by omega
      have HLT : Hid _ := hlt
      obtain ⟨b, off, rfl, hb, hc⟩ := HH.out (by omega)
      obtain ⟨b', off', rfl, hb', hc'⟩ := HH'.out (by omega)
      obtain ⟨o, HOO⟩ : ∃ o, Hid (f j = o) := ⟨_, rfl⟩
      obtain ⟨z0, z1, z2, z3, z4, z5, z6⟩ : OpAt wr b (off + j * 7) o := (HOO.out ▸ hc j hlt).below HWr.out hb
      obtain ⟨y0, y1, y2, y3, y4, y5, y6⟩ : OpAt wr b' (off' + j * 7) o := (HOO.out ▸ hc' j hlt).below HWr.out hb'
      clear hc hc' hlt hb hb'
      go_wp2
      go_region
      all_goals go_wp2
      all_goals go_round
      case rel => exact ⟨j + 1, by go_num, HLT.out, HWr.out.drew⟩
      case measure => have := HLT.out; simp [intOf]; omega
    · obtain rfl : j = n := by omega
      have dj : decide ((j : Int) < (j : Int)) = false := decide_eq_false (by omega)
      clear hlt hj
      go_wp2
      go_ret
      exact ⟨rfl, HWr.out⟩
end Go.Proofs.Ytkgbjpdoigdjnaa
namespace Go.Proofs.Ytkgbjpdoigdjnaa
open Go.RowKit
set_option maxRecDepth 100000
set_option linter.unusedVariables false
set_option linter.unusedSimpArgs false
set_option maxHeartbeats 1000000 in
theorem twin_new (pc : Nat) (count bytes : Int) (bp : Option Addr) (n cap : Nat) (f : Nat → OpR) (w : World) (hO : OpsR w bp n f) (hby : n * 56 ≤ 140737488355328) :
    Calls Try.prog 40 #[.agg #[.int .u32 pc, .int .i64 count, .int .i64 bytes, .slice bp n cap]] w fun e w' => ∃ bp' cap', e = .returned (.agg #[.int .u32 pc, .int .i64 count, .int .i64 bytes, .slice bp' n cap']) ∧ OpsR w' bp' n f ∧ n ≤ cap' ∧ Below w.heap.size w w' ∧ (∀ b off, bp' = some ⟨b, off, none⟩ → w.heap.size ≤ b) := by
  by_cases hn : n = 0
  · subst hn
    cases bp with
    | none =>
      go_enter Try.func40, Try.ntmps40
      go_wp2_with (at_builtin; refine wpList_app rfl _ _ 80 rfl _ _ (.slice none 0 0) rfl rfl (app0 cap _) ?_)
      exact bodyPost_ret (v := .agg #[.int .u32 pc, .int .i64 count, .int .i64 bytes, .slice none 0 0]) (by simp [results, Try.results40, go_sem]) rfl ⟨none, 0, rfl, fun h => by omega, Nat.le_refl _, by (repeat first | with_reducible exact Below.refl _ _ | with_reducible exact hB | with_reducible refine Below.drew ?_ | with_reducible refine Below.alloc ?_ (by first | (simp; done) | (simp; omega) | omega) _ | with_reducible refine Below.setCell ?_ (by first | (simp; done) | (simp; omega) | omega) _), fun b off e => by cases e⟩
    | some ad =>
      go_enter Try.func40, Try.ntmps40
      go_wp2_with (at_builtin; refine wpList_app rfl _ _ 80 rfl _ _ (.slice none 0 0) rfl rfl (app1 ad cap _) ?_)
      exact bodyPost_ret (v := .agg #[.int .u32 pc, .int .i64 count, .int .i64 bytes, .slice none 0 0]) (by simp [results, Try.results40, go_sem]) rfl ⟨none, 0, rfl, fun h => by omega, Nat.le_refl _, by (repeat first | with_reducible exact Below.refl _ _ | with_reducible exact hB | with_reducible refine Below.drew ?_ | with_reducible refine Below.alloc ?_ (by first | (simp; done) | (simp; omega) | omega) _ | with_reducible refine Below.setCell ?_ (by first | (simp; done) | (simp; omega) | omega) _), fun b off e => by cases e⟩
  · obtain ⟨b, off, rfl, hb, hc⟩ := hO (by omega)
    obtain ⟨i0, hi, hz0, hz1, hz2⟩ := info_parts info160
    have HNW : Hid (∀ j v, (opsL f n)[j]? = some v → ((w.alloc (.cells #[.int .u32 pc, .int .i64 count, .int .i64 bytes, .slice (some ⟨b, off, none⟩) n cap] 82)).alloc (.cells #[.int .u32 0, .int .i64 0, .int .i64 0, .slice none 0 0] 82)).cell? ((⟨b, off, none⟩ : Addr).add j) = some v) := show ∀ j v, _ from fun j v hv => by
      obtain ⟨hj, rfl⟩ := opsL_at f n j v hv
      rw [Addr.add_mid, show off + j = (off + j / 7 * 7) + j % 7 by omega]
      exact (((hc (j / 7) (by omega)).below (wk_bel w _ _) hb).cells (j % 7) (by omega))
    have HPOS : Hid (0 < n) := show 0 < n by omega
    have C3 : Hid (0 + n ≤ maxLen) := show 0 + n ≤ maxLen by unfold maxLen; omega
    have C4 : Hid ((0 + n) * 56 ≤ 140737488355328) := show (0 + n) * 56 ≤ 140737488355328 by omega
    have C5 : Hid (w.heap.size ≤ ((w.alloc (.cells #[.int .u32 pc, .int .i64 count, .int .i64 bytes, .slice (some ⟨b, off, none⟩) n cap] 82)).alloc (.cells #[.int .u32 0, .int .i64 0, .int .i64 0, .slice none 0 0] 82)).heap.size) := show w.heap.size ≤ _ by simp; omega
    have HBY : Hid _ := hby
    have HB : Hid _ := hb
    clear hO hc
    go_enter Try.func40, Try.ntmps40
    go_wp2_with (at_builtin; refine wpList_append_lies _ rfl _ _ _ rfl w.heap.size 163 i0 _ 7 56 Try.underlying80 hi hz0 hz1 hz2 rfl (by decide) (.slice none 0 0) 0 [] (by rfl) (World.ownsRow_nil _ _ _ _) ⟨b, off, none⟩ n cap (opsL f n) (by rfl) (opsL_len f n) HNW.out (opsL_one f n) HPOS.out C3.out C4.out C5.out (w.heap.size + 1 + 1) (by simp) ?_; intro g cap2 w2 hown hgr hgg hlt; rw [Nat.zero_add] at *; have HOW : Hid _ := hown; have HGR : Hid _ := Below.grown (Below.refl _ _) hgr (Nat.le_refl _) (fun k hk => by cases hk); have HG : Hid (g = w.heap.size + 1 + 1) := (hgg.elim (fun h => by cases h) id); clear hown hgr hgg; obtain ⟨B2, B5, BB1⟩ := keep2 HGR.out; have HB2 : Hid _ := B2; have HB5 : Hid _ := B5; have HBB : Hid _ := BB1; clear B2 B5 BB1; have e0 : w2.cell? ⟨w.heap.size, 0, none⟩ = some (.int .u32 pc) := row_cell HB2.out 0; have e1 : w2.cell? ⟨w.heap.size, 1, none⟩ = some (.int .i64 count) := row_cell HB2.out 1; have e2 : w2.cell? ⟨w.heap.size, 2, none⟩ = some (.int .i64 bytes) := row_cell HB2.out 2; have e3 : w2.cell? ⟨w.heap.size, 3, none⟩ = some (.slice (some ⟨b, off, none⟩) n cap) := row_cell HB2.out 3; have q0 : w2.cell? ⟨w.heap.size + 1, 0, none⟩ = some (.int .u32 0) := row_cell HB5.out 0; have q1 : w2.cell? ⟨w.heap.size + 1, 1, none⟩ = some (.int .i64 0) := row_cell HB5.out 1; have q2 : w2.cell? ⟨w.heap.size + 1, 2, none⟩ = some (.int .i64 0) := row_cell HB5.out 2; have q3 : w2.cell? ⟨w.heap.size + 1, 3, none⟩ = some (.slice none 0 0) := row_cell HB5.out 3; have fr0 := row_fr HB2.out; have fr1 := row_fr HB5.out; have l2 := row_lt HB2.out; have l5 := row_lt HB5.out)
    have hO2 := owns_ops (f := f) (base := w.heap.size) (w := w2) (g := g) (n := n) (cap := cap2) HOW.out HPOS.out
    have hgn := HG.out
    exact bodyPost_ret (v := .agg #[.int .u32 pc, .int .i64 count, .int .i64 bytes, .slice (some ⟨g, 0, none⟩) n cap2]) (by simp [results, Try.results40, go_sem, l2, l5, fr0, fr1, e0, e1, e2, e3, q0, q1, q2, q3]) rfl ⟨_, cap2, rfl, by
      have hB := hO2.1
      repeat (first | with_reducible exact hB | with_reducible refine OpsR.set ?_ (by omega) _ _), hO2.2, by
      have hB := HBB.out
      (repeat first | with_reducible exact Below.refl _ _ | with_reducible exact hB | with_reducible refine Below.drew ?_ | with_reducible refine Below.alloc ?_ (by first | (simp; done) | (simp; omega) | omega) _ | with_reducible refine Below.setCell ?_ (by first | (simp; done) | (simp; omega) | omega) _), fun b1 off1 e1 => by cases e1; omega⟩
end Go.Proofs.Ytkgbjpdoigdjnaa
namespace Go.Proofs.Ytkgbjpdoigdjnaa
open Go.RowKit
set_option maxRecDepth 100000
theorem pholds_any (c : Int) (f : Nat) (w : World) (hf : f < 4294967296) (hc64 : c ≤ 9223372036854775807) : Calls Try.prog 33 #[.int .i64 c, .int .u32 f] w fun e w' => e = .returned (.bool (Fl.holdsF c f)) ∧ Below w.heap.size w w' := by
  by_cases hlo : c < 0
  · rw [show Fl.holdsF c f = false from by unfold Fl.holdsF Fl.holdsZ; rw [if_pos (Or.inl hlo)]]; exact ho_lo c f w hlo
  by_cases hhi : 15 < c
  · rw [show Fl.holdsF c f = false from by unfold Fl.holdsF Fl.holdsZ; rw [if_pos (Or.inr hhi)]]; exact ho_hi c f w ⟨hhi, hc64⟩
  have hc : c = 0 ∨ c = 1 ∨ c = 2 ∨ c = 3 ∨ c = 4 ∨ c = 5 ∨ c = 6 ∨ c = 7 ∨ c = 8 ∨ c = 9 ∨ c = 10 ∨ c = 11 ∨ c = 12 ∨ c = 13 ∨ c = 14 ∨ c = 15 := by omega
  rcases hc with rfl | rfl | rfl | rfl | rfl | rfl | rfl | rfl | rfl | rfl | rfl | rfl | rfl | rfl | rfl | rfl
  · exact ph0 f w hf
  · exact ph1 f w hf
  · exact ph2 f w hf
  · exact ph3 f w hf
  · exact ph4 f w hf
  · exact ph5 f w hf
  · exact ph6 f w hf
  · exact ph7 f w hf
  · exact ph8 f w hf
  · exact ph9 f w hf
  · exact ph10 f w hf
  · exact ph11 f w hf
  · exact ph12 f w hf
  · exact ph13 f w hf
  · exact ph14 f w hf
  · exact ph15 f w hf
theorem holds_ok : HoldsOk := fun c f w hf hc => pholds_any c f w hf hc
end Go.Proofs.Ytkgbjpdoigdjnaa
