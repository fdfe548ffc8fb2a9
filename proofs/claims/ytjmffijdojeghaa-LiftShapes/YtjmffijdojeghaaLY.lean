import Derived.Test.YtjmffijdojeghaaLQ
import Derived.Test.YtjmffijdojeghaaJ03
import Derived.Test.YtjmffijdojeghaaCR
namespace Go.Proofs.Ytjmffijdojeghaa
open Go.RowKit
set_option maxRecDepth 100000
set_option linter.unusedVariables false
set_option linter.unusedSimpArgs false
theorem i24_info : (Try.prog.info? 24).map (fun i => (i.zero, i.size, i.bytes)) = some (some (.int .u32 0), 1, 4) := by kernel_rfl
set_option maxHeartbeats 4000000 in
theorem rleave_stop (pc : Nat) (count bytes : Int) (g cap : Nat) (K A : Int) (y : Nat) (w : World) (hO : OpAt w g 0 ⟨14, K, 0, A, 0, pc, 0⟩) (hg : g < w.heap.size) (hA : 0 ≤ A ∧ A ≤ 4294967295) :
    Calls Try.prog 107 #[.agg #[.int .u32 pc, .int .i64 count, .int .i64 bytes, .slice (some ⟨g, 0, none⟩) 1 cap], .agg #[.int .u32 0, .int .u32 0, .int .u32 0, .int .u32 0, .int .u32 0, .int .u32 0, .int .u32 0, .int .u32 0, .int .u32 0, .int .u32 0, .int .u32 0, .int .u32 0], .pointer (some ⟨y, 0, none⟩)] w fun e w' => e = .returned (.tuple #[.agg #[.int .u32 0, .int .u32 0, .int .u32 0, .int .u32 0, .int .u32 0, .int .u32 0, .int .u32 0, .int .u32 0, .int .u32 0, .int .u32 0, .int .u32 0, .int .u32 0], .agg #[.int .i64 K, .int .u32 A, .int .u32 pc, .int .i64 0], .int .i64 0]) ∧ Below w.heap.size w w' := by
  obtain ⟨i0, hi, hz0, hz1, hz2⟩ := info_parts i24_info
  have hb8 : i0.bytes ≤ 8 := by omega
  obtain ⟨z0, z1, z2, z3, z4, z5, z6⟩ := hO
  obtain ⟨a0, a1⟩ := hA
  have a2 : A < 4294967296 := by omega
  have g1 := Nat.lt_succ_of_lt hg
  have g2 := Nat.lt_succ_of_lt g1
  have g3 := Nat.lt_succ_of_lt g2
  have g4 := Nat.lt_succ_of_lt g3
  have g5 := Nat.lt_succ_of_lt g4
  go_enter Try.func107, Try.ntmps107
  go_wp2_with (refine wpList_make_as rfl (.tmp 16) (.tmp 16) 171 rfl 24 i0 (.int .u32 0) Try.underlying171 hi hz0 hz1 hb8 1 rfl rfl (by decide) (w.heap.size + 1 + 1 + 1 + 1) (by simp) ?_)
  refine wp_loop_rounds 1 ?_
  rw [rounds_succ]
  go_wp2
  go_region
  all_goals go_wp2
  all_goals exact bodyPost_ret (v := .tuple #[.agg #[.int .u32 0, .int .u32 0, .int .u32 0, .int .u32 0, .int .u32 0, .int .u32 0, .int .u32 0, .int .u32 0, .int .u32 0, .int .u32 0, .int .u32 0, .int .u32 0], .agg #[.int .i64 K, .int .u32 A, .int .u32 pc, .int .i64 0], .int .i64 0]) (by simp [results, Try.results107, go_sem]) rfl ⟨rfl, by
    (repeat first | with_reducible exact Below.refl _ _ | with_reducible refine Below.drew ?_ | with_reducible refine Below.alloc ?_ (by first | (simp; done) | (simp; omega) | omega) _ | with_reducible refine Below.setCell ?_ (by first | (simp; done) | (simp; omega) | omega) _)⟩
/-- Eval's own four blocks. -/
structure E5 (w wx : World) (pc : Nat) (count bytes : Int) (g cap : Nat) : Prop where
  b3 : wx.heap[w.heap.size]? = some (.cells #[.int .u32 pc, .int .i64 count, .int .i64 bytes, .slice (some ⟨g, 0, none⟩) 1 cap] 82)
  b4 : wx.heap[w.heap.size + 1]? = some (.cells #[.int .u32 0, .int .u32 0, .int .u32 0, .int .u32 0, .int .u32 0, .int .u32 0, .int .u32 0, .int .u32 0, .int .u32 0, .int .u32 0, .int .u32 0, .int .u32 0] 89)
  b6 : wx.heap[w.heap.size + 1 + 1]? = some (.cells #[.int .u32 0, .int .u32 0, .int .u32 0, .int .u32 0, .int .u32 0, .int .u32 0, .int .u32 0, .int .u32 0, .int .u32 0, .int .u32 0, .int .u32 0, .int .u32 0] 89)
  b7 : wx.heap[w.heap.size + 1 + 1 + 1]? = some (.cells #[.int .i64 0, .int .u32 0, .int .u32 0, .int .i64 0] 93)
  bel : Below w.heap.size w wx
theorem E5.below {w wx w' : World} {pc : Nat} {count bytes : Int} {g cap : Nat} (h : E5 w wx pc count bytes g cap) (b : Below wx.heap.size wx w') : E5 w w' pc count bytes g cap :=
  ⟨(b.block _ (row_lt h.b3)).trans h.b3, (b.block _ (row_lt h.b4)).trans h.b4, (b.block _ (row_lt h.b6)).trans h.b6, (b.block _ (row_lt h.b7)).trans h.b7, h.bel.trans (b.mono h.bel.size)⟩
theorem e5_start (w : World) (pc : Nat) (count bytes : Int) (g cap : Nat) : E5 w ((((w.alloc (.cells #[.int .u32 pc, .int .i64 count, .int .i64 bytes, .slice (some ⟨g, 0, none⟩) 1 cap] 82)).alloc (.cells #[.int .u32 0, .int .u32 0, .int .u32 0, .int .u32 0, .int .u32 0, .int .u32 0, .int .u32 0, .int .u32 0, .int .u32 0, .int .u32 0, .int .u32 0, .int .u32 0] 89)).alloc (.cells #[.int .u32 0, .int .u32 0, .int .u32 0, .int .u32 0, .int .u32 0, .int .u32 0, .int .u32 0, .int .u32 0, .int .u32 0, .int .u32 0, .int .u32 0, .int .u32 0] 89)).alloc (.cells #[.int .i64 0, .int .u32 0, .int .u32 0, .int .i64 0] 93)) pc count bytes g cap := by
  obtain ⟨a1, a2, a3⟩ := al3 w (.cells #[.int .u32 pc, .int .i64 count, .int .i64 bytes, .slice (some ⟨g, 0, none⟩) 1 cap] 82) (.cells #[.int .u32 0, .int .u32 0, .int .u32 0, .int .u32 0, .int .u32 0, .int .u32 0, .int .u32 0, .int .u32 0, .int .u32 0, .int .u32 0, .int .u32 0, .int .u32 0] 89) (.cells #[.int .u32 0, .int .u32 0, .int .u32 0, .int .u32 0, .int .u32 0, .int .u32 0, .int .u32 0, .int .u32 0, .int .u32 0, .int .u32 0, .int .u32 0, .int .u32 0] 89)
  have a4 := heap_alloc_last (((w.alloc (.cells #[.int .u32 pc, .int .i64 count, .int .i64 bytes, .slice (some ⟨g, 0, none⟩) 1 cap] 82)).alloc (.cells #[.int .u32 0, .int .u32 0, .int .u32 0, .int .u32 0, .int .u32 0, .int .u32 0, .int .u32 0, .int .u32 0, .int .u32 0, .int .u32 0, .int .u32 0, .int .u32 0] 89)).alloc (.cells #[.int .u32 0, .int .u32 0, .int .u32 0, .int .u32 0, .int .u32 0, .int .u32 0, .int .u32 0, .int .u32 0, .int .u32 0, .int .u32 0, .int .u32 0, .int .u32 0] 89)) (.cells #[.int .i64 0, .int .u32 0, .int .u32 0, .int .i64 0] 93)
  rw [show (((w.alloc (.cells #[.int .u32 pc, .int .i64 count, .int .i64 bytes, .slice (some ⟨g, 0, none⟩) 1 cap] 82)).alloc (.cells #[.int .u32 0, .int .u32 0, .int .u32 0, .int .u32 0, .int .u32 0, .int .u32 0, .int .u32 0, .int .u32 0, .int .u32 0, .int .u32 0, .int .u32 0, .int .u32 0] 89)).alloc (.cells #[.int .u32 0, .int .u32 0, .int .u32 0, .int .u32 0, .int .u32 0, .int .u32 0, .int .u32 0, .int .u32 0, .int .u32 0, .int .u32 0, .int .u32 0, .int .u32 0] 89)).heap.size = w.heap.size + 1 + 1 + 1 by simp] at a4
  exact ⟨(al_old _ _ _ (row_lt a1)).trans a1, (al_old _ _ _ (row_lt a2)).trans a2, (al_old _ _ _ (row_lt a3)).trans a3, a4, ((((Below.refl _ _).alloc (Nat.le_refl _) _).alloc (by simp) _).alloc (by simp; omega) _).alloc (by simp; omega) _⟩
set_option maxHeartbeats 8000000 in
theorem reval_stop (pc : Nat) (count bytes : Int) (g cap : Nat) (K A : Int) (y : Nat) (f : Nat → OpR) (w : World) (hO : OpsR w (some ⟨g, 0, none⟩) 1 f) (hf : f 0 = ⟨14, K, 0, A, 0, pc, 0⟩) (hA : 0 ≤ A ∧ A ≤ 4294967295) (hck : checkF count bytes 1 f = (0, 0)) :
    Calls Try.prog 48 #[.agg #[.int .u32 pc, .int .i64 count, .int .i64 bytes, .slice (some ⟨g, 0, none⟩) 1 cap], .agg #[.int .u32 0, .int .u32 0, .int .u32 0, .int .u32 0, .int .u32 0, .int .u32 0, .int .u32 0, .int .u32 0, .int .u32 0, .int .u32 0, .int .u32 0, .int .u32 0], .pointer (some ⟨y, 0, none⟩)] w fun e w' => e = .returned (.tuple #[.agg #[.int .u32 0, .int .u32 0, .int .u32 0, .int .u32 0, .int .u32 0, .int .u32 0, .int .u32 0, .int .u32 0, .int .u32 0, .int .u32 0, .int .u32 0, .int .u32 0], .agg #[.int .i64 K, .int .u32 A, .int .u32 pc, .int .i64 0], .int .i64 0]) ∧ Below w.heap.size w w' := by
  have HO : Hid (OpsR w (some ⟨g, 0, none⟩) 1 f) := hO
  have HA : Hid _ := hA
  have HCK : Hid _ := hck
  have HLV : Hid (∀ w1, Below w.heap.size w w1 → Calls Try.prog 107 #[.agg #[.int .u32 pc, .int .i64 count, .int .i64 bytes, .slice (some ⟨g, 0, none⟩) 1 cap], .agg #[.int .u32 0, .int .u32 0, .int .u32 0, .int .u32 0, .int .u32 0, .int .u32 0, .int .u32 0, .int .u32 0, .int .u32 0, .int .u32 0, .int .u32 0, .int .u32 0], .pointer (some ⟨y, 0, none⟩)] w1 fun e w' => e = .returned (.tuple #[.agg #[.int .u32 0, .int .u32 0, .int .u32 0, .int .u32 0, .int .u32 0, .int .u32 0, .int .u32 0, .int .u32 0, .int .u32 0, .int .u32 0, .int .u32 0, .int .u32 0], .agg #[.int .i64 K, .int .u32 A, .int .u32 pc, .int .i64 0], .int .i64 0]) ∧ Below w1.heap.size w1 w') := show ∀ w1, _ from fun w1 h1 => by
    obtain ⟨b, off, e0, hb, hc⟩ := OpsR.below HO.out h1 (Nat.le_refl _) (by decide)
    cases e0
    have h2 := hc 0 (by decide)
    rw [hf] at h2
    exact rleave_stop pc count bytes g cap K A y w1 h2 hb HA.out
  have H0 : Hid _ := e5_start w pc count bytes g cap
  clear hO hA hck hf
  go_enter Try.func48, Try.ntmps48
  go_upto_region 4 with (go_at_call 42; refine (rcheck_any pc count bytes (some ⟨g, 0, none⟩) 1 cap f _ (OpsR.below HO.out H0.out.bel (Nat.le_refl _)) (by decide)).mono ?_; rintro e w1 ⟨he, h1⟩; rw [HCK.out] at he; subst he; have H1 : Hid _ := H0.out.below h1; clear h1)
  have b0 : w1.cell? ⟨w.heap.size, 0, none⟩ = some (.int .u32 pc) := row_cell H1.out.b3 0
  have b1 : w1.cell? ⟨w.heap.size, 1, none⟩ = some (.int .i64 count) := row_cell H1.out.b3 1
  have b2 : w1.cell? ⟨w.heap.size, 2, none⟩ = some (.int .i64 bytes) := row_cell H1.out.b3 2
  have b3 : w1.cell? ⟨w.heap.size, 3, none⟩ = some (.slice (some ⟨g, 0, none⟩) 1 cap) := row_cell H1.out.b3 3
  have c0 : w1.cell? ⟨w.heap.size + 1, 0, none⟩ = some (.int .u32 0) := row_cell H1.out.b4 0
  have c1 : w1.cell? ⟨w.heap.size + 1, 1, none⟩ = some (.int .u32 0) := row_cell H1.out.b4 1
  have c2 : w1.cell? ⟨w.heap.size + 1, 2, none⟩ = some (.int .u32 0) := row_cell H1.out.b4 2
  have c3 : w1.cell? ⟨w.heap.size + 1, 3, none⟩ = some (.int .u32 0) := row_cell H1.out.b4 3
  have c4 : w1.cell? ⟨w.heap.size + 1, 4, none⟩ = some (.int .u32 0) := row_cell H1.out.b4 4
  have c5 : w1.cell? ⟨w.heap.size + 1, 5, none⟩ = some (.int .u32 0) := row_cell H1.out.b4 5
  have c6 : w1.cell? ⟨w.heap.size + 1, 6, none⟩ = some (.int .u32 0) := row_cell H1.out.b4 6
  have c7 : w1.cell? ⟨w.heap.size + 1, 7, none⟩ = some (.int .u32 0) := row_cell H1.out.b4 7
  have c8 : w1.cell? ⟨w.heap.size + 1, 8, none⟩ = some (.int .u32 0) := row_cell H1.out.b4 8
  have c9 : w1.cell? ⟨w.heap.size + 1, 9, none⟩ = some (.int .u32 0) := row_cell H1.out.b4 9
  have c10 : w1.cell? ⟨w.heap.size + 1, 10, none⟩ = some (.int .u32 0) := row_cell H1.out.b4 10
  have c11 : w1.cell? ⟨w.heap.size + 1, 11, none⟩ = some (.int .u32 0) := row_cell H1.out.b4 11
  go_upto_region 5 with (go_at_call 107; refine (HLV.out _ H1.out.bel).mono ?_; rintro e w3 ⟨rfl, h3⟩; have H3 : Hid _ := H1.out.below h3; clear h3)
  clear b0 b1 b2 b3 c0 c1 c2 c3 c4 c5 c6 c7 c8 c9 c10 c11
  have vy0 : w3.cell? ⟨w.heap.size + 1 + 1, 0, none⟩ = some (.int .u32 0) := row_cell H3.out.b6 0
  have vy1 : w3.cell? ⟨w.heap.size + 1 + 1, 1, none⟩ = some (.int .u32 0) := row_cell H3.out.b6 1
  have vy2 : w3.cell? ⟨w.heap.size + 1 + 1, 2, none⟩ = some (.int .u32 0) := row_cell H3.out.b6 2
  have vy3 : w3.cell? ⟨w.heap.size + 1 + 1, 3, none⟩ = some (.int .u32 0) := row_cell H3.out.b6 3
  have vy4 : w3.cell? ⟨w.heap.size + 1 + 1, 4, none⟩ = some (.int .u32 0) := row_cell H3.out.b6 4
  have vy5 : w3.cell? ⟨w.heap.size + 1 + 1, 5, none⟩ = some (.int .u32 0) := row_cell H3.out.b6 5
  have vy6 : w3.cell? ⟨w.heap.size + 1 + 1, 6, none⟩ = some (.int .u32 0) := row_cell H3.out.b6 6
  have vy7 : w3.cell? ⟨w.heap.size + 1 + 1, 7, none⟩ = some (.int .u32 0) := row_cell H3.out.b6 7
  have vy8 : w3.cell? ⟨w.heap.size + 1 + 1, 8, none⟩ = some (.int .u32 0) := row_cell H3.out.b6 8
  have vy9 : w3.cell? ⟨w.heap.size + 1 + 1, 9, none⟩ = some (.int .u32 0) := row_cell H3.out.b6 9
  have vy10 : w3.cell? ⟨w.heap.size + 1 + 1, 10, none⟩ = some (.int .u32 0) := row_cell H3.out.b6 10
  have vy11 : w3.cell? ⟨w.heap.size + 1 + 1, 11, none⟩ = some (.int .u32 0) := row_cell H3.out.b6 11
  have vyf := row_fr H3.out.b6
  have vz0 : w3.cell? ⟨w.heap.size + 1 + 1 + 1, 0, none⟩ = some (.int .i64 0) := row_cell H3.out.b7 0
  have vz1 : w3.cell? ⟨w.heap.size + 1 + 1 + 1, 1, none⟩ = some (.int .u32 0) := row_cell H3.out.b7 1
  have vz2 : w3.cell? ⟨w.heap.size + 1 + 1 + 1, 2, none⟩ = some (.int .u32 0) := row_cell H3.out.b7 2
  have vz3 : w3.cell? ⟨w.heap.size + 1 + 1 + 1, 3, none⟩ = some (.int .i64 0) := row_cell H3.out.b7 3
  have vzf := row_fr H3.out.b7
  have m6 := row_lt H3.out.b6
  have m7 := row_lt H3.out.b7
  have m61 := Nat.lt_succ_of_lt m6
  have m71 := Nat.lt_succ_of_lt m7
  go_wp2
  all_goals go_region
  all_goals go_wp2
  all_goals exact bodyPost_ret (v := .tuple #[.agg #[.int .u32 0, .int .u32 0, .int .u32 0, .int .u32 0, .int .u32 0, .int .u32 0, .int .u32 0, .int .u32 0, .int .u32 0, .int .u32 0, .int .u32 0, .int .u32 0], .agg #[.int .i64 K, .int .u32 A, .int .u32 pc, .int .i64 0], .int .i64 0]) (by simp [results, Try.results48, go_sem, vy0, vy1, vy2, vy3, vy4, vy5, vy6, vy7, vy8, vy9, vy10, vy11, vz0, vz1, vz2, vz3, vyf, vzf, m6, m7, m61, m71]) rfl ⟨rfl, by
    have hB := H3.out.bel
    have hz := hB.size
    (repeat first | with_reducible exact hB | with_reducible refine Below.drew ?_ | with_reducible refine Below.alloc ?_ (by first | (simp; done) | (simp; omega) | omega) _ | with_reducible refine Below.setCell ?_ (by first | (simp; done) | (simp; omega) | omega) _)⟩
end Go.Proofs.Ytjmffijdojeghaa
