import Derived.Test.YtcdphcbjmpgjmaaIH
namespace Go.Proofs.Ytcdphcbjmpgjmaa
open Go.RowKit
set_option maxRecDepth 100000
set_option linter.unusedVariables false
set_option linter.unusedSimpArgs false
set_option maxHeartbeats 1000000 in
theorem ho_lo (c : Int) (f : Nat) (w : World) (hc : c < 0) : Calls Try.prog 29 #[.int .i64 c, .int .u32 f] w fun e w' => e = .returned (.bool false) ∧ Below w.heap.size w w' := by
  have hd : decide (c < 0) = true := decide_eq_true hc
  have zW := (Go.zero_of_info ho_info).1
  go_enter Try.func29, Try.ntmps29
  go_wp2_with (first
    | (refine Gu.wpList_pureAt 9 9 _ _ _ ⟨#[.int .i64 c, .int .u32 f, undef, undef, .bool false, undef, undef, undef, undef, .agg #[.int .u32 8, .bool false, .bool false], .agg #[.int .u32 4, .bool false, .bool false], .agg #[.int .u32 1, .bool false, .bool false], .agg #[.int .u32 5, .bool false, .bool false], .agg #[.int .u32 2, .bool false, .bool false], .agg #[.int .u32 0, .bool true, .bool false], .agg #[.int .u32 1, .bool true, .bool false], .agg #[.int .u32 0, .bool false, .bool true], .agg hoC, undef, undef, undef, undef, undef, undef, undef, undef, undef, undef, undef, undef, undef, undef, undef, undef, undef, undef, undef, undef, undef, undef, undef, undef, undef, undef, undef, undef, undef, undef, undef, undef, undef, undef, undef, undef, undef, undef, undef], []⟩ rfl (by kernel_rfl) ?_; simp only [List.drop_succ_cons, List.drop_zero])
    | (refine Gu.wpList_alloc_as rfl 124 rfl _ zW w.heap.size rfl ?_)
    | (refine wpList_store_row rfl 124 _ _ rfl w.heap.size hoC (by rfl) (by rfl) 124 hoZ (heap_alloc_last w _) (Go.zero_of_info ho_info).2 (by rfl) (by kernel_rfl) ?_; rw [World.setRow_alloc_new]))
  go_ret
  exact ⟨rfl, wk_bel1 w _⟩
set_option maxHeartbeats 1000000 in
theorem ho_hi (c : Int) (f : Nat) (w : World) (hc : 15 < c ∧ c ≤ 9223372036854775807) : Calls Try.prog 29 #[.int .i64 c, .int .u32 f] w fun e w' => e = .returned (.bool false) ∧ Below w.heap.size w w' := by
  have hd : decide (c < 0) = false := decide_eq_false (by omega)
  have ht : c.tdiv 2 = c / 2 := Int.tdiv_eq_ediv_of_nonneg (by omega)
  obtain ⟨q, hq⟩ : ∃ q : Int, c / 2 = q := ⟨_, rfl⟩
  have hq8 : 8 ≤ q := by omega
  have hql : q ≤ 9223372036854775807 := by omega
  rw [hq] at ht
  have hd2 : decide (8 ≤ q) = true := decide_eq_true hq8
  have HQ : Hid _ := hq
  clear hq
  have zW := (Go.zero_of_info ho_info).1
  go_enter Try.func29, Try.ntmps29
  go_wp2_with (first
    | (refine Gu.wpList_pureAt 9 9 _ _ _ ⟨#[.int .i64 c, .int .u32 f, undef, undef, .bool false, undef, undef, undef, undef, .agg #[.int .u32 8, .bool false, .bool false], .agg #[.int .u32 4, .bool false, .bool false], .agg #[.int .u32 1, .bool false, .bool false], .agg #[.int .u32 5, .bool false, .bool false], .agg #[.int .u32 2, .bool false, .bool false], .agg #[.int .u32 0, .bool true, .bool false], .agg #[.int .u32 1, .bool true, .bool false], .agg #[.int .u32 0, .bool false, .bool true], .agg hoC, undef, undef, undef, undef, undef, undef, undef, undef, undef, undef, undef, undef, undef, undef, undef, undef, undef, undef, undef, undef, undef, undef, undef, undef, undef, undef, undef, undef, undef, undef, undef, undef, undef, undef, undef, undef, undef, undef, undef], []⟩ rfl (by kernel_rfl) ?_; simp only [List.drop_succ_cons, List.drop_zero])
    | (refine Gu.wpList_alloc_as rfl 124 rfl _ zW w.heap.size rfl ?_)
    | (refine wpList_store_row rfl 124 _ _ rfl w.heap.size hoC (by rfl) (by rfl) 124 hoZ (heap_alloc_last w _) (Go.zero_of_info ho_info).2 (by rfl) (by kernel_rfl) ?_; rw [World.setRow_alloc_new]))
  go_ret
  exact ⟨rfl, wk_bel1 w _⟩
end Go.Proofs.Ytcdphcbjmpgjmaa
