import Derived.Test.YtkgbjpdoigdjnaaC1
import Derived.Test.YtkgbjpdoigdjnaaCX
import Derived.Test.YtkgbjpdoigdjnaaJ32
import Derived.Test.YtkgbjpdoigdjnaaJ04
namespace Go.Proofs.Ytkgbjpdoigdjnaa
open Go.RowKit
set_option maxRecDepth 100000
set_option linter.unusedVariables false
set_option linter.unusedSimpArgs false

def cxOk (c : Nat → Nat) : Prop := ∀ i, c i < 4294967296
abbrev cxF (c : Nat → Nat) : Int := Fl.flagsF (c 8) (c 9) (c 10) (c 11)

set_option maxHeartbeats 1000000 in
theorem irflags_any (c : Nat → Nat) (w : World) (hc : cxOk c) :
    Calls Try.prog 108 #[cxV c] w fun e w' => e = .returned (.int .u32 (cxF c)) ∧ Below w.heap.size w w' := by
  have h8 : (c 8 : Int) < 4294967296 := by have := hc 8; omega
  have h80 : (0 : Int) ≤ (c 8 : Int) := by omega
  have HC : Hid (cxOk c) := hc
  clear hc
  go_enter Try.func108, Try.ntmps108
  go_wp2_with (go_at_call 31; refine (pflags_any (c 8) (c 9) (c 10) (c 11) _ (HC.out 9) (HC.out 10) (HC.out 11)).mono ?_; rintro e w1 ⟨rfl, h1⟩)
  go_ret
  exact ⟨rfl, (wk_bel1 w _).trans (h1.mono (by simp))⟩

theorem keep2 {w w1 : World} {o1 o2 : Obj} (h : Below ((w.alloc o1).alloc o2).heap.size ((w.alloc o1).alloc o2) w1) : w1.heap[w.heap.size]? = some o1 ∧ w1.heap[w.heap.size + 1]? = some o2 ∧ Below w.heap.size w w1 := by
  refine ⟨(h.block _ (by simp; omega)).trans (al2 w o1 o2).1, (h.block _ (by simp)).trans (al2 w o1 o2).2, wk_belT h⟩

set_option maxHeartbeats 2000000 in
theorem pstate_any (c : Nat → Nat) (pc : Nat) (w : World) (hc : cxOk c) :
    Calls Try.prog 54 #[cxV c, .int .u32 pc] w fun e w' => e = .returned (sxV c pc (cxF c)) ∧ Below w.heap.size w w' := by
  have HC : Hid (cxOk c) := hc
  obtain ⟨F, HF⟩ : ∃ F : Int, Hid (cxF c = F) := ⟨_, rfl⟩
  clear hc
  go_enter Try.func54, Try.ntmps54
  go_upto_region 2 with (go_at_call 108; refine (irflags_any c _ HC.out).mono ?_; rintro e w1 ⟨rfl, h1⟩; obtain ⟨b0, b1, B⟩ := keep2 h1; have HB : Hid _ := B; have Hb0 : Hid _ := b0; have Hb1 : Hid _ := b1; have s1 := h1.size; simp only [al_size] at s1; clear h1 b0 b1 B; rw [HF.out])
  have l1 : w.heap.size + 1 < w1.heap.size := row_lt Hb1.out
  have l0 : w.heap.size < w1.heap.size := row_lt Hb0.out
  have HR := copy8_run (W := (w1.alloc (.cells #[.int .u32 0, .int .u32 0, .int .u32 0, .int .u32 0, .int .u32 0, .int .u32 0, .int .u32 0, .int .u32 0, .int .u32 pc, .int .u32 F] 64)).drew) (dCap := 8) (sCap := 12) (r := c) ((al_old w1 _ _ l0).trans Hb0.out) (heap_alloc_last w1 _) (fun j hj => cx_at c j (by omega)) (by simp)
  simp only [r8L, World.setCells] at HR
  have f1 := row_fr Hb1.out
  have q0 : w1.cell? ⟨w.heap.size + 1, 0, none⟩ = some (.int .u32 0) := row_cell Hb1.out 0
  have q1 : w1.cell? ⟨w.heap.size + 1, 1, none⟩ = some (.int .u32 0) := row_cell Hb1.out 1
  have q2 : w1.cell? ⟨w.heap.size + 1, 2, none⟩ = some (.int .u32 0) := row_cell Hb1.out 2
  have q3 : w1.cell? ⟨w.heap.size + 1, 3, none⟩ = some (.int .u32 0) := row_cell Hb1.out 3
  have q4 : w1.cell? ⟨w.heap.size + 1, 4, none⟩ = some (.int .u32 0) := row_cell Hb1.out 4
  have q5 : w1.cell? ⟨w.heap.size + 1, 5, none⟩ = some (.int .u32 0) := row_cell Hb1.out 5
  have q6 : w1.cell? ⟨w.heap.size + 1, 6, none⟩ = some (.int .u32 0) := row_cell Hb1.out 6
  have q7 : w1.cell? ⟨w.heap.size + 1, 7, none⟩ = some (.int .u32 0) := row_cell Hb1.out 7
  have q8 : w1.cell? ⟨w.heap.size + 1, 8, none⟩ = some (.int .u32 0) := row_cell Hb1.out 8
  have q9 : w1.cell? ⟨w.heap.size + 1, 9, none⟩ = some (.int .u32 0) := row_cell Hb1.out 9
  go_region
  all_goals (clear HR; go_wp2)
  exact bodyPost_ret (v := sxV c pc (cxF c)) (by rw [HF.out]; simp [results, Try.results54, go_sem, l0, l1, f1, q0, q1, q2, q3, q4, q5, q6, q7, q8, q9]) rfl ⟨rfl, by
    have hB := HB.out
    (repeat first | with_reducible exact Below.refl _ _ | with_reducible exact hB | with_reducible refine Below.drew ?_ | with_reducible refine Below.alloc ?_ (by first | (simp; done) | (simp; omega) | omega) _ | with_reducible refine Below.setCell ?_ (by first | (simp; done) | (simp; omega) | omega) _)⟩

set_option maxHeartbeats 2000000 in
theorem rstate_any (c : Nat → Nat) (pc : Nat) (w : World) (hc : cxOk c) :
    Calls Try.prog 55 #[cxV c, .int .u32 pc] w fun e w' => e = .returned (sxV c pc (cxF c)) ∧ Below w.heap.size w w' := by
  have h8 : (c 8 : Int) < 4294967296 := by have := hc 8; omega
  have h80 : (0 : Int) ≤ (c 8 : Int) := by omega
  have HC : Hid (cxOk c) := hc
  obtain ⟨F, HF⟩ : ∃ F : Int, Hid (cxF c = F) := ⟨_, rfl⟩
  clear hc
  go_enter Try.func55, Try.ntmps55
  go_wp2_with (go_at_call 32; refine (Fl.flags_any (c 8) (c 9) (c 10) (c 11) _ (HC.out 9) (HC.out 10) (HC.out 11)).mono ?_; rintro e w1 ⟨rfl, rfl⟩; rw [show Fl.flagsF (c 8) (c 9) (c 10) (c 11) = F from HF.out])
  refine wp_loop_rounds 9 ?_
  iterate 9 (rw [rounds_succ]; go_wp2)
  exact bodyPost_ret (v := sxV c pc (cxF c)) (by rw [HF.out]; simp [results, Try.results55, go_sem]) rfl ⟨rfl, by (repeat first | with_reducible exact Below.refl _ _ | with_reducible exact hB | with_reducible refine Below.drew ?_ | with_reducible refine Below.alloc ?_ (by first | (simp; done) | (simp; omega) | omega) _ | with_reducible refine Below.setCell ?_ (by first | (simp; done) | (simp; omega) | omega) _)⟩
end Go.Proofs.Ytkgbjpdoigdjnaa
