import Derived.Test.YtcdphcbjmpgjmaaID
namespace Go.Proofs.Ytcdphcbjmpgjmaa
open Go.RowKit
set_option maxRecDepth 100000
set_option linter.unusedVariables false
set_option linter.unusedSimpArgs false
set_option maxHeartbeats 1000000 in
theorem work_lo (k : Int) (a b old o16 : Nat) (w : World) (ha : a < 4294967296) (hb : b < 4294967296) (ho : old < 4294967296) (h16 : old % 16 = o16) (hk : k < 0) :
    Calls Try.prog 63 #[.int .i64 k, .int .u32 a, .int .u32 b, .int .u32 old] w fun e w' => e = .returned (.tuple #[.int .u32 ((a : Int)), .int .u32 ((o16 : Int))]) ∧ Below w.heap.size w w' := by
  have h15 : bits .and .u32 (old : Int) 15 = (o16 : Int) := by rw [and15 old ho, h16]
  have ho16 : o16 < 16 := by omega
  have hd : decide (k < 0) = true := decide_eq_true hk
  have zW := (Go.zero_of_info wk_info).1
  have H16 : Hid _ := h16
  clear h16
  go_enter Try.func63, Try.ntmps63
  go_wp2_with (first
    | (refine Gu.wpList_pureAt 14 14 _ _ _ ⟨#[.int .i64 k, .int .u32 a, .int .u32 b, .int .u32 old, undef, undef, undef, undef, .int .u32 0, .int .u32 0, undef, undef, undef, undef, .agg #[.int .u8 0, .bool false, .bool false], .agg #[.int .u8 1, .bool false, .bool false], .agg #[.int .u8 1, .bool true, .bool false], .agg #[.int .u8 2, .bool false, .bool false], .agg #[.int .u8 2, .bool true, .bool false], .agg #[.int .u8 3, .bool false, .bool false], .agg #[.int .u8 5, .bool false, .bool false], .agg #[.int .u8 6, .bool false, .bool false], .agg #[.int .u8 7, .bool false, .bool false], .agg #[.int .u8 8, .bool false, .bool false], .agg #[.int .u8 4, .bool false, .bool false], .agg #[.int .u8 1, .bool false, .bool true], .agg #[.int .u8 2, .bool false, .bool true], .agg wkC, undef, undef, undef, undef, undef, undef, undef, undef, undef, undef, undef, undef, undef, undef, undef, undef, undef, undef, undef, undef, undef, undef, undef, undef, undef, undef, undef, undef, undef, undef, undef, undef, undef, undef, undef, undef, undef, undef, undef, undef, undef, undef, undef, undef, undef, undef, undef, undef, undef, undef, undef, undef, undef, undef, undef, undef, undef, undef, undef, undef, undef, undef, undef, undef, undef, undef, undef, undef, undef, undef, undef, undef, undef, undef], []⟩ rfl (by kernel_rfl) ?_; simp only [List.drop_succ_cons, List.drop_zero])
    | (refine Gu.wpList_alloc_as rfl 147 rfl _ zW w.heap.size rfl ?_)
    | (refine wpList_store_row rfl 147 _ _ rfl w.heap.size wkC (by rfl) (by rfl) 147 wkZ (heap_alloc_last w _) (Go.zero_of_info wk_info).2 (by rfl) (by kernel_rfl) ?_; rw [World.setRow_alloc_new])
    | fail)
  go_ret2
  exact ⟨rfl, wk_bel1 w _⟩
set_option maxHeartbeats 1000000 in
theorem work_hi (k : Int) (a b old o16 : Nat) (w : World) (ha : a < 4294967296) (hb : b < 4294967296) (ho : old < 4294967296) (h16 : old % 16 = o16) (hk : 12 < k) :
    Calls Try.prog 63 #[.int .i64 k, .int .u32 a, .int .u32 b, .int .u32 old] w fun e w' => e = .returned (.tuple #[.int .u32 ((a : Int)), .int .u32 ((o16 : Int))]) ∧ Below w.heap.size w w' := by
  have h15 : bits .and .u32 (old : Int) 15 = (o16 : Int) := by rw [and15 old ho, h16]
  have ho16 : o16 < 16 := by omega
  have hd : decide (k < 0) = false := decide_eq_false (by omega)
  have hd2 : decide (13 ≤ k) = true := decide_eq_true (by omega)
  have zW := (Go.zero_of_info wk_info).1
  have H16 : Hid _ := h16
  clear h16
  go_enter Try.func63, Try.ntmps63
  go_wp2_with (first
    | (refine Gu.wpList_pureAt 14 14 _ _ _ ⟨#[.int .i64 k, .int .u32 a, .int .u32 b, .int .u32 old, undef, undef, undef, undef, .int .u32 0, .int .u32 0, undef, undef, undef, undef, .agg #[.int .u8 0, .bool false, .bool false], .agg #[.int .u8 1, .bool false, .bool false], .agg #[.int .u8 1, .bool true, .bool false], .agg #[.int .u8 2, .bool false, .bool false], .agg #[.int .u8 2, .bool true, .bool false], .agg #[.int .u8 3, .bool false, .bool false], .agg #[.int .u8 5, .bool false, .bool false], .agg #[.int .u8 6, .bool false, .bool false], .agg #[.int .u8 7, .bool false, .bool false], .agg #[.int .u8 8, .bool false, .bool false], .agg #[.int .u8 4, .bool false, .bool false], .agg #[.int .u8 1, .bool false, .bool true], .agg #[.int .u8 2, .bool false, .bool true], .agg wkC, undef, undef, undef, undef, undef, undef, undef, undef, undef, undef, undef, undef, undef, undef, undef, undef, undef, undef, undef, undef, undef, undef, undef, undef, undef, undef, undef, undef, undef, undef, undef, undef, undef, undef, undef, undef, undef, undef, undef, undef, undef, undef, undef, undef, undef, undef, undef, undef, undef, undef, undef, undef, undef, undef, undef, undef, undef, undef, undef, undef, undef, undef, undef, undef, undef, undef, undef, undef, undef, undef, undef, undef, undef, undef], []⟩ rfl (by kernel_rfl) ?_; simp only [List.drop_succ_cons, List.drop_zero])
    | (refine Gu.wpList_alloc_as rfl 147 rfl _ zW w.heap.size rfl ?_)
    | (refine wpList_store_row rfl 147 _ _ rfl w.heap.size wkC (by rfl) (by rfl) 147 wkZ (heap_alloc_last w _) (Go.zero_of_info wk_info).2 (by rfl) (by kernel_rfl) ?_; rw [World.setRow_alloc_new])
    | fail)
  go_ret2
  exact ⟨rfl, wk_bel1 w _⟩
end Go.Proofs.Ytcdphcbjmpgjmaa
