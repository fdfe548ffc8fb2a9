import Derived.Test.YtnnnmhpbdkalaaaB
namespace Go.Proofs.Ytnnnmhpbdkalaaa
open Go.RowKit

set_option maxRecDepth 100000 in
set_option maxHeartbeats 1000000 in
theorem find_byte (p : Nat) (fit : Nat → Bool) (w : World)
    (hfit : ∀ (k : Nat) (w' : World), k < 32 → Below w.heap.size w w' → Calls Try.prog 25 #[rowC k, .pointer (some ⟨p, 0, none⟩)] w' fun e w'' => e = .returned (.bool (fit k)) ∧ Below w'.heap.size w' w'') :
    Calls Try.prog 24 #[.func (Fn.func 25) #[] #[.pointer (some ⟨p, 0, none⟩)]] w
      fun e w' => e = .returned (.tuple #[rowV (hit fit), .bool (hit fit).isSome]) ∧ Below w.heap.size w w' := by
  have z59 := (zero_of_info info59).1
  go_enter Try.func24, Try.ntmps24
  go_wp2_with (first | (refine wpList_pureAt 6 33 _ _ _ ⟨#[.func (Fn.func 25) #[] #[.pointer (some ⟨p, 0, none⟩)], undef, .pointer (some ⟨w.heap.size, 0, none⟩), .bool false, undef, undef, rowC 0, rowC 1, rowC 2, rowC 3, rowC 4, rowC 5, rowC 6, rowC 7, rowC 8, rowC 9, rowC 10, rowC 11, rowC 12, rowC 13, rowC 14, rowC 15, rowC 16, rowC 17, rowC 18, rowC 19, rowC 20, rowC 21, rowC 22, rowC 23, rowC 24, rowC 25, rowC 26, rowC 27, rowC 28, rowC 29, rowC 30, rowC 31, .agg tabCells, undef, undef, undef, undef, undef, undef, undef, undef, undef, undef, undef, undef, undef], []⟩ rfl (by kernel_rfl) ?_; simp only [List.drop_succ_cons, List.drop_zero]) | (refine wpList_alloc_as rfl 59 rfl _ z59 (w.heap.size + 1) (by simp) ?_) | (refine wpList_store_row rfl 59 _ _ rfl (w.heap.size + 1) tabCells (by rfl) (by rfl) 59 tabZero (by exact heap_alloc2_new w _ _) (zero_of_info info59).2 (by rfl) (by kernel_rfl) ?_; rw [show w.heap.size + 1 = (w.alloc (.cells #[.int .u8 0, .int .u8 0, .int .u8 0, .int .u8 0, .int .u8 0, .int .u8 0] 40)).heap.size from by simp, World.setRow_alloc_new]; simp only [World.size_alloc]))
  clear z59
  generalize hW1 : w.alloc (.cells #[.int .u8 0, .int .u8 0, .int .u8 0, .int .u8 0, .int .u8 0, .int .u8 0] 40) = W1
  have hs1 : W1.heap.size = w.heap.size + 1 := by rw [← hW1]; simp
  have hb1 : Below w.heap.size w W1 := by rw [← hW1]; exact (Below.refl _ _).alloc (Nat.le_refl _) _
  have hc1 : ∀ i, W1.cell? ⟨w.heap.size, i, none⟩ = #[Value.int .u8 0, .int .u8 0, .int .u8 0, .int .u8 0, .int .u8 0, .int .u8 0][i]? := by
    intro i; rw [← hW1]; exact cell_of_row _ _ i _ 40 (0, 0) (heap_alloc_last w _)
  have hf1 : ∀ i, W1.frozen? ⟨w.heap.size, i, none⟩ = false := by
    intro i; rw [← hW1]; exact frozen_of_row _ _ i _ 40 (heap_alloc_last w _)
  clear hW1
  go_loopw [39] (fun i wr => ∃ k : Nat, k ≤ 32 ∧ i = .int .i64 k ∧ (∀ j, j < k → fit j = false) ∧ Below (W1.heap.size + 1) (W1.alloc (.cells tabCells 59)) wr) (fun i _ => 32 - (intOf i).toNat)
  case atStart => exact ⟨0, by omega, rfl, fun j hj => by omega, Below.refl _ _⟩
  case round =>
    obtain ⟨k, hk, rfl, hno, hbel⟩ := hrel
    have hbw : Below w.heap.size w wr := hb1.trans (((Below.refl _ _).alloc (by omega) _).trans (hbel.mono (by omega)))
    have hsz : w.heap.size + 1 < wr.heap.size := by have := hbel.size; simp at this; omega
    have hsz0 : w.heap.size < wr.heap.size := by omega
    have hrow : ∀ j, k * 6 + j < 192 → wr.cell? ⟨w.heap.size + 1, k * 6 + j, none⟩ = some (.int .u8 (tg k j)) := fun j hj => by
      rw [info_cells hbel hs1.symm]; exact tab_at _ hj
    have hres : ∀ i, wr.cell? ⟨w.heap.size, i, none⟩ = #[Value.int .u8 0, .int .u8 0, .int .u8 0, .int .u8 0, .int .u8 0, .int .u8 0][i]? := fun i => by
      rw [hbel.cell (p := ⟨w.heap.size, i, none⟩) (by show w.heap.size < _; omega), World.cell?_alloc_past _ _ _ (by show w.heap.size < _; omega), hc1]
    have hfrz : ∀ i, wr.frozen? ⟨w.heap.size, i, none⟩ = false := fun i => by
      rw [hbel.frozen (p := ⟨w.heap.size, i, none⟩) (by show w.heap.size < _; omega), World.frozen?_of_block (w := W1) (Below.heap_alloc _ _ _ (by show w.heap.size < _; omega)), hf1]
    have r0 := hres 0
    have r1 := hres 1
    have r2 := hres 2
    have r3 := hres 3
    have r4 := hres 4
    have r5 := hres 5
    have z0 := hfrz 0
    have z1 := hfrz 1
    have z2 := hfrz 2
    have z3 := hfrz 3
    have z4 := hfrz 4
    have z5 := hfrz 5
    simp at r0 r1 r2 r3 r4 r5
    by_cases hlt : k < 32
    · have c0 := hrow 0 (by omega)
      have c1 := hrow 1 (by omega)
      have c2 := hrow 2 (by omega)
      have c3 := hrow 3 (by omega)
      have c4 := hrow 4 (by omega)
      have c5 := hrow 5 (by omega)
      simp only [Nat.add_zero] at c0
      clear hrow hres hfrz hc1 hf1
      go_wp2_with (go_at_call 25; refine (hfit k _ hlt hbw).mono ?_; rintro e w2 ⟨rfl, hb2⟩; obtain ⟨hc2, hf2⟩ := bcell hb2)
      · have hyes : fit k = true := by assumption
        refine bodyPost_ret (v := .tuple #[.agg #[.int .u8 (tg k 0), .int .u8 (tg k 1), .int .u8 (tg k 2), .int .u8 (tg k 3), .int .u8 (tg k 4), .int .u8 (tg k 5)], .bool true]) (by simp [results, Try.results24, go_sem, hc2, hsz0, r0, r1, r2, r3, r4, r5]) rfl ⟨by rw [hit_some hlt hyes hno]; rfl, ?_⟩
        exact ((((((hbw.trans (hb2.mono (by omega))).setCell (by simp) _).setCell (by simp) _).setCell (by simp) _).setCell (by simp) _).setCell (by simp) _).setCell (by simp) _
      · have hnot : fit k = false := by assumption
        go_roundw
        case rel => exact ⟨k + 1, by omega, by go_num, fun j hj => by rcases Nat.lt_succ_iff_lt_or_eq.1 hj with h | h; exact hno j h; rw [h]; exact hnot, hbel.trans (hb2.mono (by omega))⟩
        case measure => simp [intOf]; omega
    · clear hrow hres hfrz hc1 hf1
      go_wp2
      have hk32 : k = 32 := by omega
      refine bodyPost_ret (v := .tuple #[.agg #[.int .u8 0, .int .u8 0, .int .u8 0, .int .u8 0, .int .u8 0, .int .u8 0], .bool false]) (by simp [results, Try.results24, go_sem, r0, r1, r2, r3, r4, r5]) rfl ⟨by rw [hit_none (fun j hj => hno j (by omega))]; rfl, ?_⟩
      exact (((((hbw.setCell (by simp) _).setCell (by simp) _).setCell (by simp) _).setCell (by simp) _).setCell (by simp) _).setCell (by simp) _

set_option maxRecDepth 100000 in
set_option maxHeartbeats 1000000 in
theorem find_op (p : Nat) (fit : Nat → Bool) (w : World)
    (hfit : ∀ (k : Nat) (w' : World), k < 32 → Below w.heap.size w w' → Calls Try.prog 28 #[rowC k, .pointer (some ⟨p, 0, none⟩)] w' fun e w'' => e = .returned (.bool (fit k)) ∧ Below w'.heap.size w' w'') :
    Calls Try.prog 24 #[.func (Fn.func 28) #[] #[.pointer (some ⟨p, 0, none⟩)]] w
      fun e w' => e = .returned (.tuple #[rowV (hit fit), .bool (hit fit).isSome]) ∧ Below w.heap.size w w' := by
  have z59 := (zero_of_info info59).1
  go_enter Try.func24, Try.ntmps24
  go_wp2_with (first | (refine wpList_pureAt 6 33 _ _ _ ⟨#[.func (Fn.func 28) #[] #[.pointer (some ⟨p, 0, none⟩)], undef, .pointer (some ⟨w.heap.size, 0, none⟩), .bool false, undef, undef, rowC 0, rowC 1, rowC 2, rowC 3, rowC 4, rowC 5, rowC 6, rowC 7, rowC 8, rowC 9, rowC 10, rowC 11, rowC 12, rowC 13, rowC 14, rowC 15, rowC 16, rowC 17, rowC 18, rowC 19, rowC 20, rowC 21, rowC 22, rowC 23, rowC 24, rowC 25, rowC 26, rowC 27, rowC 28, rowC 29, rowC 30, rowC 31, .agg tabCells, undef, undef, undef, undef, undef, undef, undef, undef, undef, undef, undef, undef, undef], []⟩ rfl (by kernel_rfl) ?_; simp only [List.drop_succ_cons, List.drop_zero]) | (refine wpList_alloc_as rfl 59 rfl _ z59 (w.heap.size + 1) (by simp) ?_) | (refine wpList_store_row rfl 59 _ _ rfl (w.heap.size + 1) tabCells (by rfl) (by rfl) 59 tabZero (by exact heap_alloc2_new w _ _) (zero_of_info info59).2 (by rfl) (by kernel_rfl) ?_; rw [show w.heap.size + 1 = (w.alloc (.cells #[.int .u8 0, .int .u8 0, .int .u8 0, .int .u8 0, .int .u8 0, .int .u8 0] 40)).heap.size from by simp, World.setRow_alloc_new]; simp only [World.size_alloc]))
  clear z59
  generalize hW1 : w.alloc (.cells #[.int .u8 0, .int .u8 0, .int .u8 0, .int .u8 0, .int .u8 0, .int .u8 0] 40) = W1
  have hs1 : W1.heap.size = w.heap.size + 1 := by rw [← hW1]; simp
  have hb1 : Below w.heap.size w W1 := by rw [← hW1]; exact (Below.refl _ _).alloc (Nat.le_refl _) _
  have hc1 : ∀ i, W1.cell? ⟨w.heap.size, i, none⟩ = #[Value.int .u8 0, .int .u8 0, .int .u8 0, .int .u8 0, .int .u8 0, .int .u8 0][i]? := by
    intro i; rw [← hW1]; exact cell_of_row _ _ i _ 40 (0, 0) (heap_alloc_last w _)
  have hf1 : ∀ i, W1.frozen? ⟨w.heap.size, i, none⟩ = false := by
    intro i; rw [← hW1]; exact frozen_of_row _ _ i _ 40 (heap_alloc_last w _)
  clear hW1
  go_loopw [39] (fun i wr => ∃ k : Nat, k ≤ 32 ∧ i = .int .i64 k ∧ (∀ j, j < k → fit j = false) ∧ Below (W1.heap.size + 1) (W1.alloc (.cells tabCells 59)) wr) (fun i _ => 32 - (intOf i).toNat)
  case atStart => exact ⟨0, by omega, rfl, fun j hj => by omega, Below.refl _ _⟩
  case round =>
    obtain ⟨k, hk, rfl, hno, hbel⟩ := hrel
    have hbw : Below w.heap.size w wr := hb1.trans (((Below.refl _ _).alloc (by omega) _).trans (hbel.mono (by omega)))
    have hsz : w.heap.size + 1 < wr.heap.size := by have := hbel.size; simp at this; omega
    have hsz0 : w.heap.size < wr.heap.size := by omega
    have hrow : ∀ j, k * 6 + j < 192 → wr.cell? ⟨w.heap.size + 1, k * 6 + j, none⟩ = some (.int .u8 (tg k j)) := fun j hj => by
      rw [info_cells hbel hs1.symm]; exact tab_at _ hj
    have hres : ∀ i, wr.cell? ⟨w.heap.size, i, none⟩ = #[Value.int .u8 0, .int .u8 0, .int .u8 0, .int .u8 0, .int .u8 0, .int .u8 0][i]? := fun i => by
      rw [hbel.cell (p := ⟨w.heap.size, i, none⟩) (by show w.heap.size < _; omega), World.cell?_alloc_past _ _ _ (by show w.heap.size < _; omega), hc1]
    have hfrz : ∀ i, wr.frozen? ⟨w.heap.size, i, none⟩ = false := fun i => by
      rw [hbel.frozen (p := ⟨w.heap.size, i, none⟩) (by show w.heap.size < _; omega), World.frozen?_of_block (w := W1) (Below.heap_alloc _ _ _ (by show w.heap.size < _; omega)), hf1]
    have r0 := hres 0
    have r1 := hres 1
    have r2 := hres 2
    have r3 := hres 3
    have r4 := hres 4
    have r5 := hres 5
    have z0 := hfrz 0
    have z1 := hfrz 1
    have z2 := hfrz 2
    have z3 := hfrz 3
    have z4 := hfrz 4
    have z5 := hfrz 5
    simp at r0 r1 r2 r3 r4 r5
    by_cases hlt : k < 32
    · have c0 := hrow 0 (by omega)
      have c1 := hrow 1 (by omega)
      have c2 := hrow 2 (by omega)
      have c3 := hrow 3 (by omega)
      have c4 := hrow 4 (by omega)
      have c5 := hrow 5 (by omega)
      simp only [Nat.add_zero] at c0
      clear hrow hres hfrz hc1 hf1
      go_wp2_with (go_at_call 28; refine (hfit k _ hlt hbw).mono ?_; rintro e w2 ⟨rfl, hb2⟩; obtain ⟨hc2, hf2⟩ := bcell hb2)
      · have hyes : fit k = true := by assumption
        refine bodyPost_ret (v := .tuple #[.agg #[.int .u8 (tg k 0), .int .u8 (tg k 1), .int .u8 (tg k 2), .int .u8 (tg k 3), .int .u8 (tg k 4), .int .u8 (tg k 5)], .bool true]) (by simp [results, Try.results24, go_sem, hc2, hsz0, r0, r1, r2, r3, r4, r5]) rfl ⟨by rw [hit_some hlt hyes hno]; rfl, ?_⟩
        exact ((((((hbw.trans (hb2.mono (by omega))).setCell (by simp) _).setCell (by simp) _).setCell (by simp) _).setCell (by simp) _).setCell (by simp) _).setCell (by simp) _
      · have hnot : fit k = false := by assumption
        go_roundw
        case rel => exact ⟨k + 1, by omega, by go_num, fun j hj => by rcases Nat.lt_succ_iff_lt_or_eq.1 hj with h | h; exact hno j h; rw [h]; exact hnot, hbel.trans (hb2.mono (by omega))⟩
        case measure => simp [intOf]; omega
    · clear hrow hres hfrz hc1 hf1
      go_wp2
      have hk32 : k = 32 := by omega
      refine bodyPost_ret (v := .tuple #[.agg #[.int .u8 0, .int .u8 0, .int .u8 0, .int .u8 0, .int .u8 0, .int .u8 0], .bool false]) (by simp [results, Try.results24, go_sem, r0, r1, r2, r3, r4, r5]) rfl ⟨by rw [hit_none (fun j hj => hno j (by omega))]; rfl, ?_⟩
      exact (((((hbw.setCell (by simp) _).setCell (by simp) _).setCell (by simp) _).setCell (by simp) _).setCell (by simp) _).setCell (by simp) _
end Go.Proofs.Ytnnnmhpbdkalaaa
