import Derived.Test.YtcdphcbjmpgjmaaIR
import Derived.Deep.CutBlock
namespace Go.Proofs.Ytcdphcbjmpgjmaa
open Go.RowKit
set_option maxRecDepth 100000
set_option linter.unusedVariables false
set_option linter.unusedSimpArgs false
set_option maxHeartbeats 1000000 in
theorem rk14z (a f : Nat) (w : World) :
    Calls Try.prog 25 #[.int .i64 14, .int .u32 a, .int .u32 0, .int .u32 f] w fun e w' => e = .returned (.tuple #[.int .u32 0, .int .u32 0, .bool false]) ∧ Below w.heap.size w w' := by
  have c0 : rkC[42]? = some (.int .u8 5) := by kernel_rfl
  have c1 : rkC[43]? = some (.int .u8 4) := by kernel_rfl
  have c2 : rkC[44]? = some (.bool false) := by kernel_rfl
  have zW := (Go.zero_of_info rk_info).1
  go_enter Try.func25, Try.ntmps25
  go_upto_region 2 with (first
    | (refine Gu.wpList_pureAt 15 17 _ _ _ ⟨#[.int .i64 14, .int .u32 a, .int .u32 0, .int .u32 f, undef, undef, undef, undef, .int .u32 0, .int .u32 0, .bool false, undef, undef, undef, undef, .agg #[.int .u8 1, .int .u8 0, .bool false], .agg #[.int .u8 2, .int .u8 0, .bool false], .agg #[.int .u8 3, .int .u8 0, .bool false], .agg #[.int .u8 4, .int .u8 0, .bool false], .agg #[.int .u8 5, .int .u8 1, .bool false], .agg #[.int .u8 5, .int .u8 2, .bool false], .agg #[.int .u8 5, .int .u8 3, .bool false], .agg #[.int .u8 3, .int .u8 0, .bool true], .agg #[.int .u8 5, .int .u8 1, .bool true], .agg #[.int .u8 6, .int .u8 0, .bool false], .agg #[.int .u8 7, .int .u8 0, .bool false], .agg #[.int .u8 8, .int .u8 0, .bool false], .agg #[.int .u8 9, .int .u8 0, .bool false], .agg #[.int .u8 10, .int .u8 0, .bool false], .agg #[.int .u8 5, .int .u8 4, .bool false], .agg #[.int .u8 5, .int .u8 5, .bool false], .agg rkC, undef, undef, undef, undef, undef, undef, undef, undef, undef, undef, undef, undef, undef, undef, undef, undef, undef, undef, undef, undef, undef, undef, undef, undef, undef, undef, undef, undef, undef, undef, undef, undef, undef, undef, undef, undef, undef, undef, undef, undef], []⟩ rfl (by kernel_rfl) ?_; simp only [List.drop_succ_cons, List.drop_zero])
    | (refine Gu.wpList_alloc_as rfl 110 rfl _ zW w.heap.size rfl ?_)
    | (refine wpList_store_row rfl 110 _ _ rfl w.heap.size rkC (by rfl) (by rfl) 110 rkZ (heap_alloc_last w _) (Go.zero_of_info rk_info).2 (by rfl) (by kernel_rfl) ?_; rw [World.setRow_alloc_new]))
  go_wp2
  go_ret3
  exact ⟨rfl, wk_bel w _ _⟩
set_option maxHeartbeats 1000000 in
theorem rk15z (a f : Nat) (w : World) :
    Calls Try.prog 25 #[.int .i64 15, .int .u32 a, .int .u32 0, .int .u32 f] w fun e w' => e = .returned (.tuple #[.int .u32 0, .int .u32 0, .bool false]) ∧ Below w.heap.size w w' := by
  have c0 : rkC[45]? = some (.int .u8 5) := by kernel_rfl
  have c1 : rkC[46]? = some (.int .u8 5) := by kernel_rfl
  have c2 : rkC[47]? = some (.bool false) := by kernel_rfl
  have zW := (Go.zero_of_info rk_info).1
  go_enter Try.func25, Try.ntmps25
  go_upto_region 2 with (first
    | (refine Gu.wpList_pureAt 15 17 _ _ _ ⟨#[.int .i64 15, .int .u32 a, .int .u32 0, .int .u32 f, undef, undef, undef, undef, .int .u32 0, .int .u32 0, .bool false, undef, undef, undef, undef, .agg #[.int .u8 1, .int .u8 0, .bool false], .agg #[.int .u8 2, .int .u8 0, .bool false], .agg #[.int .u8 3, .int .u8 0, .bool false], .agg #[.int .u8 4, .int .u8 0, .bool false], .agg #[.int .u8 5, .int .u8 1, .bool false], .agg #[.int .u8 5, .int .u8 2, .bool false], .agg #[.int .u8 5, .int .u8 3, .bool false], .agg #[.int .u8 3, .int .u8 0, .bool true], .agg #[.int .u8 5, .int .u8 1, .bool true], .agg #[.int .u8 6, .int .u8 0, .bool false], .agg #[.int .u8 7, .int .u8 0, .bool false], .agg #[.int .u8 8, .int .u8 0, .bool false], .agg #[.int .u8 9, .int .u8 0, .bool false], .agg #[.int .u8 10, .int .u8 0, .bool false], .agg #[.int .u8 5, .int .u8 4, .bool false], .agg #[.int .u8 5, .int .u8 5, .bool false], .agg rkC, undef, undef, undef, undef, undef, undef, undef, undef, undef, undef, undef, undef, undef, undef, undef, undef, undef, undef, undef, undef, undef, undef, undef, undef, undef, undef, undef, undef, undef, undef, undef, undef, undef, undef, undef, undef, undef, undef, undef, undef], []⟩ rfl (by kernel_rfl) ?_; simp only [List.drop_succ_cons, List.drop_zero])
    | (refine Gu.wpList_alloc_as rfl 110 rfl _ zW w.heap.size rfl ?_)
    | (refine wpList_store_row rfl 110 _ _ rfl w.heap.size rkC (by rfl) (by rfl) 110 rkZ (heap_alloc_last w _) (Go.zero_of_info rk_info).2 (by rfl) (by kernel_rfl) ?_; rw [World.setRow_alloc_new]))
  go_wp2
  go_ret3
  exact ⟨rfl, wk_bel w _ _⟩
set_option maxHeartbeats 1000000 in
theorem rk_lo (o : Int) (a b f : Nat) (w : World) (ho : o < 0) :
    Calls Try.prog 25 #[.int .i64 o, .int .u32 a, .int .u32 b, .int .u32 f] w fun e w' => e = .returned (.tuple #[.int .u32 0, .int .u32 0, .bool false]) ∧ Below w.heap.size w w' := by
  have hd : decide (o < 0) = true := decide_eq_true ho
  have zW := (Go.zero_of_info rk_info).1
  go_enter Try.func25, Try.ntmps25
  go_upto_region 2 with (first
    | (refine Gu.wpList_pureAt 15 17 _ _ _ ⟨#[.int .i64 o, .int .u32 a, .int .u32 b, .int .u32 f, undef, undef, undef, undef, .int .u32 0, .int .u32 0, .bool false, undef, undef, undef, undef, .agg #[.int .u8 1, .int .u8 0, .bool false], .agg #[.int .u8 2, .int .u8 0, .bool false], .agg #[.int .u8 3, .int .u8 0, .bool false], .agg #[.int .u8 4, .int .u8 0, .bool false], .agg #[.int .u8 5, .int .u8 1, .bool false], .agg #[.int .u8 5, .int .u8 2, .bool false], .agg #[.int .u8 5, .int .u8 3, .bool false], .agg #[.int .u8 3, .int .u8 0, .bool true], .agg #[.int .u8 5, .int .u8 1, .bool true], .agg #[.int .u8 6, .int .u8 0, .bool false], .agg #[.int .u8 7, .int .u8 0, .bool false], .agg #[.int .u8 8, .int .u8 0, .bool false], .agg #[.int .u8 9, .int .u8 0, .bool false], .agg #[.int .u8 10, .int .u8 0, .bool false], .agg #[.int .u8 5, .int .u8 4, .bool false], .agg #[.int .u8 5, .int .u8 5, .bool false], .agg rkC, undef, undef, undef, undef, undef, undef, undef, undef, undef, undef, undef, undef, undef, undef, undef, undef, undef, undef, undef, undef, undef, undef, undef, undef, undef, undef, undef, undef, undef, undef, undef, undef, undef, undef, undef, undef, undef, undef, undef, undef], []⟩ rfl (by kernel_rfl) ?_; simp only [List.drop_succ_cons, List.drop_zero])
    | (refine Gu.wpList_alloc_as rfl 110 rfl _ zW w.heap.size rfl ?_)
    | (refine wpList_store_row rfl 110 _ _ rfl w.heap.size rkC (by rfl) (by rfl) 110 rkZ (heap_alloc_last w _) (Go.zero_of_info rk_info).2 (by rfl) (by kernel_rfl) ?_; rw [World.setRow_alloc_new]))
  go_wp2
  go_ret3
  exact ⟨rfl, wk_bel1 w _⟩
set_option maxHeartbeats 1000000 in
theorem rk_hi (o : Int) (a b f : Nat) (w : World) (ho : 15 < o) :
    Calls Try.prog 25 #[.int .i64 o, .int .u32 a, .int .u32 b, .int .u32 f] w fun e w' => e = .returned (.tuple #[.int .u32 0, .int .u32 0, .bool false]) ∧ Below w.heap.size w w' := by
  have hd : decide (o < 0) = false := decide_eq_false (by omega)
  have hd2 : decide (16 ≤ o) = true := decide_eq_true (by omega)
  have zW := (Go.zero_of_info rk_info).1
  go_enter Try.func25, Try.ntmps25
  go_upto_region 2 with (first
    | (refine Gu.wpList_pureAt 15 17 _ _ _ ⟨#[.int .i64 o, .int .u32 a, .int .u32 b, .int .u32 f, undef, undef, undef, undef, .int .u32 0, .int .u32 0, .bool false, undef, undef, undef, undef, .agg #[.int .u8 1, .int .u8 0, .bool false], .agg #[.int .u8 2, .int .u8 0, .bool false], .agg #[.int .u8 3, .int .u8 0, .bool false], .agg #[.int .u8 4, .int .u8 0, .bool false], .agg #[.int .u8 5, .int .u8 1, .bool false], .agg #[.int .u8 5, .int .u8 2, .bool false], .agg #[.int .u8 5, .int .u8 3, .bool false], .agg #[.int .u8 3, .int .u8 0, .bool true], .agg #[.int .u8 5, .int .u8 1, .bool true], .agg #[.int .u8 6, .int .u8 0, .bool false], .agg #[.int .u8 7, .int .u8 0, .bool false], .agg #[.int .u8 8, .int .u8 0, .bool false], .agg #[.int .u8 9, .int .u8 0, .bool false], .agg #[.int .u8 10, .int .u8 0, .bool false], .agg #[.int .u8 5, .int .u8 4, .bool false], .agg #[.int .u8 5, .int .u8 5, .bool false], .agg rkC, undef, undef, undef, undef, undef, undef, undef, undef, undef, undef, undef, undef, undef, undef, undef, undef, undef, undef, undef, undef, undef, undef, undef, undef, undef, undef, undef, undef, undef, undef, undef, undef, undef, undef, undef, undef, undef, undef, undef, undef], []⟩ rfl (by kernel_rfl) ?_; simp only [List.drop_succ_cons, List.drop_zero])
    | (refine Gu.wpList_alloc_as rfl 110 rfl _ zW w.heap.size rfl ?_)
    | (refine wpList_store_row rfl 110 _ _ rfl w.heap.size rkC (by rfl) (by rfl) 110 rkZ (heap_alloc_last w _) (Go.zero_of_info rk_info).2 (by rfl) (by kernel_rfl) ?_; rw [World.setRow_alloc_new]))
  go_wp2
  go_ret3
  exact ⟨rfl, wk_bel1 w _⟩
end Go.Proofs.Ytcdphcbjmpgjmaa
