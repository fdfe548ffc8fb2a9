import Derived.Test.YtnnnmhpbdkalaaaH
import Derived.Test.YtnnnmhpbdkalaaaQ
namespace Go.Proofs.Ytnnnmhpbdkalaaa
open Go.RowKit
set_option linter.unusedVariables false
set_option linter.unusedSimpArgs false

/-! ## crossgrainref1.Encode -/
def lowF (k : Nat) (D S O : Int) : Int := if formS k 2 = ⟨#[68]⟩ then D else if formS k 2 = ⟨#[83]⟩ then S else if formS k 2 = ⟨#[79]⟩ then O else 0
/-- Each field has room. -/
def okF (k : Nat) (D S O : Int) : Bool := decide (0 ≤ lowF k D S O ∧ lowF k D S O < formI k 1 ∧ 0 ≤ D ∧ D ≤ 7 ∧ 0 ≤ S ∧ S ≤ 7 ∧ 0 ≤ O ∧ O ≤ 15)

theorem enc_world {w W : World} {o0 o1 o2 : Obj} (h : ((w.alloc o0).alloc o1).alloc o2 = W) :
    W.heap[w.heap.size]? = some o0 ∧ W.heap[w.heap.size + 1]? = some o1 ∧ W.heap[w.heap.size + 1 + 1]? = some o2 ∧ W.heap.size = w.heap.size + 3 ∧ Below w.heap.size w W := by
  subst h
  have e : ∀ (v : World) (o : Obj) (k : Nat), k < v.heap.size → (v.alloc o).heap[k]? = v.heap[k]? := fun v o k hk => Below.heap_alloc v o k hk
  refine ⟨?_, ?_, ?_, by simp, ((((Below.refl _ _).alloc (Nat.le_refl _) _).alloc (by simp) _).alloc (by simp; omega) _)⟩
  · rw [e _ _ _ (by simp only [World.size_alloc]; omega), e _ _ _ (by simp)]; exact heap_alloc_last _ _
  · rw [e _ _ _ (by simp)]; have := heap_alloc_last (w.alloc o0) o1; simpa using this
  · have := heap_alloc_last ((w.alloc o0).alloc o1) o2; simpa using this

set_option maxRecDepth 100000 in
set_option maxHeartbeats 4000000 in
theorem reenc_bad (D S O im : Int) (w : World) (k : Nat) (hlt : k < 32) (hok : okF k D S O = false) :
    Calls Try.prog 15 #[.agg #[.int .i64 k, .int .i64 D, .int .i64 S, .int .i64 O, .int .u32 im]] w fun e w' =>
      Below w.heap.size w w' ∧ e = .returned (.tuple #[.slice none 0 0, .int .i64 3]) := by
  have hge : (0 : Int) ≤ (k : Int) := by omega
  have hl32 : (k : Int) < 32 := by omega
  obtain ⟨e0, e1, e2, e3⟩ := form_ok k hlt
  obtain ⟨b0, b1, b2, b3⟩ := form_bd ⟨k, hlt⟩
  simp only at b0 b1 b2 b3
  have hIn := formS2 ⟨k, hlt⟩
  simp only at hIn
  have HOK : Hid (okF k D S O = false) := hok
  clear hok
  go_enter Try.func15, Try.ntmps15
  go_upto_block 0 with (go_at_call 20; refine (forms_any _).mono ?_; rintro e w3 ⟨rfl, rfl⟩; have d0 := (cell_of_row _ _ (k * 4 + 0) _ 46 (0, 0) (heap_alloc_last (w.alloc (.cells #[.int .i64 k, .int .i64 D, .int .i64 S, .int .i64 O, .int .u32 im] 26)) (.cells formCells 46))).trans (form_at k 0 _ e0); have d1 := (cell_of_row _ _ (k * 4 + 1) _ 46 (0, 0) (heap_alloc_last (w.alloc (.cells #[.int .i64 k, .int .i64 D, .int .i64 S, .int .i64 O, .int .u32 im] 26)) (.cells formCells 46))).trans (form_at k 1 _ e1); have d2 := (cell_of_row _ _ (k * 4 + 2) _ 46 (0, 0) (heap_alloc_last (w.alloc (.cells #[.int .i64 k, .int .i64 D, .int .i64 S, .int .i64 O, .int .u32 im] 26)) (.cells formCells 46))).trans (form_at k 2 _ e2); have d3 := (cell_of_row _ _ (k * 4 + 3) _ 46 (0, 0) (heap_alloc_last (w.alloc (.cells #[.int .i64 k, .int .i64 D, .int .i64 S, .int .i64 O, .int .u32 im] 26)) (.cells formCells 46))).trans (form_at k 3 _ e3); simp only [Nat.add_zero, World.size_alloc] at d0 d1 d2 d3)
  generalize hW : ((w.alloc _).alloc _).alloc _ = W
  obtain ⟨hX, -, hF, hsW, hB⟩ := enc_world hW
  clear hW d0 d1 d2 d3
  obtain ⟨x0, x1, x2, x3, x4⟩ := ins_cells hX
  have y0 := cell_of_row _ _ 0 _ _ _ hF
  have y1 := cell_of_row _ _ 1 _ _ _ hF
  have y2 := cell_of_row _ _ 2 _ _ _ hF
  have y3 := cell_of_row _ _ 3 _ _ _ hF
  simp at y0 y1 y2 y3
  go_cut [6] from 13 (fun s6 wx => s6 = .int .i64 (lowF k D S O) ∧ W = wx)
  case first =>
    rcases hIn with h | h | h | h
    · have hl : lowF k D S O = 0 := by unfold lowF; rw [if_neg (by rw [h]; decide), if_neg (by rw [h]; decide), if_neg (by rw [h]; decide)]
      rw [h] at y2 ⊢
      clear h
      go_wp2_with fail
      go_meet
      case rel => exact ⟨by rw [hl], rfl⟩
    · have hl : lowF k D S O = D := by unfold lowF; rw [if_pos h]
      rw [h] at y2 ⊢
      clear h
      go_wp2_with fail
      go_meet
      case rel => exact ⟨by rw [hl], rfl⟩
    · have hl : lowF k D S O = S := by unfold lowF; rw [if_neg (by rw [h]; decide), if_pos h]
      rw [h] at y2 ⊢
      clear h
      go_wp2_with fail
      go_meet
      case rel => exact ⟨by rw [hl], rfl⟩
    · have hl : lowF k D S O = O := by unfold lowF; rw [if_neg (by rw [h]; decide), if_neg (by rw [h]; decide), if_pos h]
      rw [h] at y2 ⊢
      clear h
      go_wp2_with fail
      go_meet
      case rel => exact ⟨by rw [hl], rfl⟩
  case rest =>
    obtain ⟨rfl, rfl⟩ := hcut
    have hok := HOK.out
    simp only [okF, decide_eq_false_iff_not] at hok
    generalize lowF k D S O = low at hok ⊢
    have hcase : (low < 0) ∨ (0 ≤ low ∧ formI k 1 ≤ low) ∨ (0 ≤ low ∧ low < formI k 1 ∧ D < 0) ∨ (0 ≤ low ∧ low < formI k 1 ∧ 0 ≤ D ∧ 7 < D) ∨ (0 ≤ low ∧ low < formI k 1 ∧ 0 ≤ D ∧ D ≤ 7 ∧ S < 0) ∨ (0 ≤ low ∧ low < formI k 1 ∧ 0 ≤ D ∧ D ≤ 7 ∧ 0 ≤ S ∧ 7 < S) ∨ (0 ≤ low ∧ low < formI k 1 ∧ 0 ≤ D ∧ D ≤ 7 ∧ 0 ≤ S ∧ S ≤ 7 ∧ O < 0) ∨ (0 ≤ low ∧ low < formI k 1 ∧ 0 ≤ D ∧ D ≤ 7 ∧ 0 ≤ S ∧ S ≤ 7 ∧ 0 ≤ O ∧ 15 < O) := by omega
    clear hok HOK
    rcases hcase with k0 | ⟨k0, k1⟩ | ⟨k0, k1, k2⟩ | ⟨k0, k1, k2, k3⟩ | ⟨k0, k1, k2, k3, k4⟩ | ⟨k0, k1, k2, k3, k4, k5⟩ | ⟨k0, k1, k2, k3, k4, k5, k6⟩ | ⟨k0, k1, k2, k3, k4, k5, k6, k7⟩
    all_goals
      go_wp2_with fail
      go_ret2
      exact ⟨hB, rfl⟩

end Go.Proofs.Ytnnnmhpbdkalaaa
