import Derived.Test.YtkgbjpdoigdjnaaJ32
import Derived.Deep.RegionHeld3
import Derived.Deep.CutBlock
namespace Go.Proofs.Ytkgbjpdoigdjnaa
open Go.RowKit
set_option maxRecDepth 100000
set_option linter.unusedVariables false
set_option linter.unusedSimpArgs false
set_option maxHeartbeats 1000000 in
theorem rk0n (a b f : Nat) (w : World) (ha : a < 4294967296) (hb : b < 4294967296) (hf : f < 4294967296) (hz : ((b : Int) == 0) = false) :
    Calls Try.prog 29 #[.int .i64 0, .int .u32 a, .int .u32 b, .int .u32 f] w fun e w' => e = .returned (.tuple #[.int .u32 (wkX 1 a b f), .int .u32 (Fl.flagsF 1 a b f), .bool true]) ∧ Below w.heap.size w w' := by
  have c0 : rkC[0]? = some (.int .u8 1) := by kernel_rfl
  have c1 : rkC[1]? = some (.int .u8 0) := by kernel_rfl
  have c2 : rkC[2]? = some (.bool false) := by kernel_rfl
  have zW := (Go.zero_of_info rk_info).1
  go_enter Try.func29, Try.ntmps29
  go_upto_region 2 with (first
    | (refine Gu.wpList_pureAt 15 17 _ _ _ ⟨#[.int .i64 0, .int .u32 a, .int .u32 b, .int .u32 f, undef, undef, undef, undef, .int .u32 0, .int .u32 0, .bool false, undef, undef, undef, undef, .agg #[.int .u8 1, .int .u8 0, .bool false], .agg #[.int .u8 2, .int .u8 0, .bool false], .agg #[.int .u8 3, .int .u8 0, .bool false], .agg #[.int .u8 4, .int .u8 0, .bool false], .agg #[.int .u8 5, .int .u8 1, .bool false], .agg #[.int .u8 5, .int .u8 2, .bool false], .agg #[.int .u8 5, .int .u8 3, .bool false], .agg #[.int .u8 3, .int .u8 0, .bool true], .agg #[.int .u8 5, .int .u8 1, .bool true], .agg #[.int .u8 6, .int .u8 0, .bool false], .agg #[.int .u8 7, .int .u8 0, .bool false], .agg #[.int .u8 8, .int .u8 0, .bool false], .agg #[.int .u8 9, .int .u8 0, .bool false], .agg #[.int .u8 10, .int .u8 0, .bool false], .agg #[.int .u8 5, .int .u8 4, .bool false], .agg #[.int .u8 5, .int .u8 5, .bool false], .agg rkC, undef, undef, undef, undef, undef, undef, undef, undef, undef, undef, undef, undef, undef, undef, undef, undef, undef, undef, undef, undef, undef, undef, undef, undef, undef, undef, undef, undef, undef, undef, undef, undef, undef, undef, undef, undef, undef, undef, undef, undef], []⟩ rfl (by kernel_rfl) ?_; simp only [List.drop_succ_cons, List.drop_zero])
    | (refine Gu.wpList_alloc_as rfl 135 rfl _ zW w.heap.size rfl ?_)
    | (refine wpList_store_row rfl 135 _ _ rfl w.heap.size rkC (by rfl) (by rfl) 135 rkZ (heap_alloc_last w _) (Go.zero_of_info rk_info).2 (by rfl) (by kernel_rfl) ?_; rw [World.setRow_alloc_new]))
  go_wp2
  go_region_held3 (fun w' => w'.cell? ⟨w.heap.size + 1, 0, none⟩ = some (.int .u8 1) ∧ w'.cell? ⟨w.heap.size + 1, 1, none⟩ = some (.int .u8 0)) (first | (simp [go_sem, k0, k1]; done) | (simp [go_sem]; done))
    (first
    | (go_at_call 85; refine (taken0 a b _).mono ?_; rintro e w1 ⟨rfl, rfl⟩)
    | (go_at_call 84; refine (work_any 1 a b f _ ha hb hf).mono ?_; rintro e w1 ⟨rfl, hB⟩; have k0 := rk_row (wk_belD hB) 0; have k1 := rk_row (wk_belD hB) 1; have k2 := rk_row (wk_belD hB) 2; simp at k0 k1 k2))
  all_goals go_wp2
  all_goals go_ret3
  all_goals exact ⟨ret3 rfl rfl rfl, wk_belT (wk_belD hB)⟩
set_option maxHeartbeats 1000000 in
theorem rk0z (a b f : Nat) (w : World) (ha : a < 4294967296) (hb : b < 4294967296) (hf : f < 4294967296) (hz : ((b : Int) == 0) = true) :
    Calls Try.prog 29 #[.int .i64 0, .int .u32 a, .int .u32 b, .int .u32 f] w fun e w' => e = .returned (.tuple #[.int .u32 (wkX 1 a b f), .int .u32 (Fl.flagsF 1 a b f), .bool true]) ∧ Below w.heap.size w w' := by
  have c0 : rkC[0]? = some (.int .u8 1) := by kernel_rfl
  have c1 : rkC[1]? = some (.int .u8 0) := by kernel_rfl
  have c2 : rkC[2]? = some (.bool false) := by kernel_rfl
  have zW := (Go.zero_of_info rk_info).1
  go_enter Try.func29, Try.ntmps29
  go_upto_region 2 with (first
    | (refine Gu.wpList_pureAt 15 17 _ _ _ ⟨#[.int .i64 0, .int .u32 a, .int .u32 b, .int .u32 f, undef, undef, undef, undef, .int .u32 0, .int .u32 0, .bool false, undef, undef, undef, undef, .agg #[.int .u8 1, .int .u8 0, .bool false], .agg #[.int .u8 2, .int .u8 0, .bool false], .agg #[.int .u8 3, .int .u8 0, .bool false], .agg #[.int .u8 4, .int .u8 0, .bool false], .agg #[.int .u8 5, .int .u8 1, .bool false], .agg #[.int .u8 5, .int .u8 2, .bool false], .agg #[.int .u8 5, .int .u8 3, .bool false], .agg #[.int .u8 3, .int .u8 0, .bool true], .agg #[.int .u8 5, .int .u8 1, .bool true], .agg #[.int .u8 6, .int .u8 0, .bool false], .agg #[.int .u8 7, .int .u8 0, .bool false], .agg #[.int .u8 8, .int .u8 0, .bool false], .agg #[.int .u8 9, .int .u8 0, .bool false], .agg #[.int .u8 10, .int .u8 0, .bool false], .agg #[.int .u8 5, .int .u8 4, .bool false], .agg #[.int .u8 5, .int .u8 5, .bool false], .agg rkC, undef, undef, undef, undef, undef, undef, undef, undef, undef, undef, undef, undef, undef, undef, undef, undef, undef, undef, undef, undef, undef, undef, undef, undef, undef, undef, undef, undef, undef, undef, undef, undef, undef, undef, undef, undef, undef, undef, undef, undef], []⟩ rfl (by kernel_rfl) ?_; simp only [List.drop_succ_cons, List.drop_zero])
    | (refine Gu.wpList_alloc_as rfl 135 rfl _ zW w.heap.size rfl ?_)
    | (refine wpList_store_row rfl 135 _ _ rfl w.heap.size rkC (by rfl) (by rfl) 135 rkZ (heap_alloc_last w _) (Go.zero_of_info rk_info).2 (by rfl) (by kernel_rfl) ?_; rw [World.setRow_alloc_new]))
  go_wp2
  go_region_held3 (fun w' => w'.cell? ⟨w.heap.size + 1, 0, none⟩ = some (.int .u8 1) ∧ w'.cell? ⟨w.heap.size + 1, 1, none⟩ = some (.int .u8 0)) (first | (simp [go_sem, k0, k1]; done) | (simp [go_sem]; done))
    (first
    | (go_at_call 85; refine (taken0 a b _).mono ?_; rintro e w1 ⟨rfl, rfl⟩)
    | (go_at_call 84; refine (work_any 1 a b f _ ha hb hf).mono ?_; rintro e w1 ⟨rfl, hB⟩; have k0 := rk_row (wk_belD hB) 0; have k1 := rk_row (wk_belD hB) 1; have k2 := rk_row (wk_belD hB) 2; simp at k0 k1 k2))
  all_goals go_wp2
  all_goals go_ret3
  all_goals exact ⟨ret3 rfl rfl rfl, wk_belT (wk_belD hB)⟩
set_option maxHeartbeats 1000000 in
theorem rk1n (a b f : Nat) (w : World) (ha : a < 4294967296) (hb : b < 4294967296) (hf : f < 4294967296) (hz : ((b : Int) == 0) = false) :
    Calls Try.prog 29 #[.int .i64 1, .int .u32 a, .int .u32 b, .int .u32 f] w fun e w' => e = .returned (.tuple #[.int .u32 (wkX 2 a b f), .int .u32 (Fl.flagsF 2 a b f), .bool true]) ∧ Below w.heap.size w w' := by
  have c0 : rkC[3]? = some (.int .u8 2) := by kernel_rfl
  have c1 : rkC[4]? = some (.int .u8 0) := by kernel_rfl
  have c2 : rkC[5]? = some (.bool false) := by kernel_rfl
  have zW := (Go.zero_of_info rk_info).1
  go_enter Try.func29, Try.ntmps29
  go_upto_region 2 with (first
    | (refine Gu.wpList_pureAt 15 17 _ _ _ ⟨#[.int .i64 1, .int .u32 a, .int .u32 b, .int .u32 f, undef, undef, undef, undef, .int .u32 0, .int .u32 0, .bool false, undef, undef, undef, undef, .agg #[.int .u8 1, .int .u8 0, .bool false], .agg #[.int .u8 2, .int .u8 0, .bool false], .agg #[.int .u8 3, .int .u8 0, .bool false], .agg #[.int .u8 4, .int .u8 0, .bool false], .agg #[.int .u8 5, .int .u8 1, .bool false], .agg #[.int .u8 5, .int .u8 2, .bool false], .agg #[.int .u8 5, .int .u8 3, .bool false], .agg #[.int .u8 3, .int .u8 0, .bool true], .agg #[.int .u8 5, .int .u8 1, .bool true], .agg #[.int .u8 6, .int .u8 0, .bool false], .agg #[.int .u8 7, .int .u8 0, .bool false], .agg #[.int .u8 8, .int .u8 0, .bool false], .agg #[.int .u8 9, .int .u8 0, .bool false], .agg #[.int .u8 10, .int .u8 0, .bool false], .agg #[.int .u8 5, .int .u8 4, .bool false], .agg #[.int .u8 5, .int .u8 5, .bool false], .agg rkC, undef, undef, undef, undef, undef, undef, undef, undef, undef, undef, undef, undef, undef, undef, undef, undef, undef, undef, undef, undef, undef, undef, undef, undef, undef, undef, undef, undef, undef, undef, undef, undef, undef, undef, undef, undef, undef, undef, undef, undef], []⟩ rfl (by kernel_rfl) ?_; simp only [List.drop_succ_cons, List.drop_zero])
    | (refine Gu.wpList_alloc_as rfl 135 rfl _ zW w.heap.size rfl ?_)
    | (refine wpList_store_row rfl 135 _ _ rfl w.heap.size rkC (by rfl) (by rfl) 135 rkZ (heap_alloc_last w _) (Go.zero_of_info rk_info).2 (by rfl) (by kernel_rfl) ?_; rw [World.setRow_alloc_new]))
  go_wp2
  go_region_held3 (fun w' => w'.cell? ⟨w.heap.size + 1, 0, none⟩ = some (.int .u8 2) ∧ w'.cell? ⟨w.heap.size + 1, 1, none⟩ = some (.int .u8 0)) (first | (simp [go_sem, k0, k1]; done) | (simp [go_sem]; done))
    (first
    | (go_at_call 85; refine (taken0 a b _).mono ?_; rintro e w1 ⟨rfl, rfl⟩)
    | (go_at_call 84; refine (work_any 2 a b f _ ha hb hf).mono ?_; rintro e w1 ⟨rfl, hB⟩; have k0 := rk_row (wk_belD hB) 0; have k1 := rk_row (wk_belD hB) 1; have k2 := rk_row (wk_belD hB) 2; simp at k0 k1 k2))
  all_goals go_wp2
  all_goals go_ret3
  all_goals exact ⟨ret3 rfl rfl rfl, wk_belT (wk_belD hB)⟩
set_option maxHeartbeats 1000000 in
theorem rk1z (a b f : Nat) (w : World) (ha : a < 4294967296) (hb : b < 4294967296) (hf : f < 4294967296) (hz : ((b : Int) == 0) = true) :
    Calls Try.prog 29 #[.int .i64 1, .int .u32 a, .int .u32 b, .int .u32 f] w fun e w' => e = .returned (.tuple #[.int .u32 (wkX 2 a b f), .int .u32 (Fl.flagsF 2 a b f), .bool true]) ∧ Below w.heap.size w w' := by
  have c0 : rkC[3]? = some (.int .u8 2) := by kernel_rfl
  have c1 : rkC[4]? = some (.int .u8 0) := by kernel_rfl
  have c2 : rkC[5]? = some (.bool false) := by kernel_rfl
  have zW := (Go.zero_of_info rk_info).1
  go_enter Try.func29, Try.ntmps29
  go_upto_region 2 with (first
    | (refine Gu.wpList_pureAt 15 17 _ _ _ ⟨#[.int .i64 1, .int .u32 a, .int .u32 b, .int .u32 f, undef, undef, undef, undef, .int .u32 0, .int .u32 0, .bool false, undef, undef, undef, undef, .agg #[.int .u8 1, .int .u8 0, .bool false], .agg #[.int .u8 2, .int .u8 0, .bool false], .agg #[.int .u8 3, .int .u8 0, .bool false], .agg #[.int .u8 4, .int .u8 0, .bool false], .agg #[.int .u8 5, .int .u8 1, .bool false], .agg #[.int .u8 5, .int .u8 2, .bool false], .agg #[.int .u8 5, .int .u8 3, .bool false], .agg #[.int .u8 3, .int .u8 0, .bool true], .agg #[.int .u8 5, .int .u8 1, .bool true], .agg #[.int .u8 6, .int .u8 0, .bool false], .agg #[.int .u8 7, .int .u8 0, .bool false], .agg #[.int .u8 8, .int .u8 0, .bool false], .agg #[.int .u8 9, .int .u8 0, .bool false], .agg #[.int .u8 10, .int .u8 0, .bool false], .agg #[.int .u8 5, .int .u8 4, .bool false], .agg #[.int .u8 5, .int .u8 5, .bool false], .agg rkC, undef, undef, undef, undef, undef, undef, undef, undef, undef, undef, undef, undef, undef, undef, undef, undef, undef, undef, undef, undef, undef, undef, undef, undef, undef, undef, undef, undef, undef, undef, undef, undef, undef, undef, undef, undef, undef, undef, undef, undef], []⟩ rfl (by kernel_rfl) ?_; simp only [List.drop_succ_cons, List.drop_zero])
    | (refine Gu.wpList_alloc_as rfl 135 rfl _ zW w.heap.size rfl ?_)
    | (refine wpList_store_row rfl 135 _ _ rfl w.heap.size rkC (by rfl) (by rfl) 135 rkZ (heap_alloc_last w _) (Go.zero_of_info rk_info).2 (by rfl) (by kernel_rfl) ?_; rw [World.setRow_alloc_new]))
  go_wp2
  go_region_held3 (fun w' => w'.cell? ⟨w.heap.size + 1, 0, none⟩ = some (.int .u8 2) ∧ w'.cell? ⟨w.heap.size + 1, 1, none⟩ = some (.int .u8 0)) (first | (simp [go_sem, k0, k1]; done) | (simp [go_sem]; done))
    (first
    | (go_at_call 85; refine (taken0 a b _).mono ?_; rintro e w1 ⟨rfl, rfl⟩)
    | (go_at_call 84; refine (work_any 2 a b f _ ha hb hf).mono ?_; rintro e w1 ⟨rfl, hB⟩; have k0 := rk_row (wk_belD hB) 0; have k1 := rk_row (wk_belD hB) 1; have k2 := rk_row (wk_belD hB) 2; simp at k0 k1 k2))
  all_goals go_wp2
  all_goals go_ret3
  all_goals exact ⟨ret3 rfl rfl rfl, wk_belT (wk_belD hB)⟩
set_option maxHeartbeats 1000000 in
theorem rk2n (a b f : Nat) (w : World) (ha : a < 4294967296) (hb : b < 4294967296) (hf : f < 4294967296) (hz : ((b : Int) == 0) = false) :
    Calls Try.prog 29 #[.int .i64 2, .int .u32 a, .int .u32 b, .int .u32 f] w fun e w' => e = .returned (.tuple #[.int .u32 (wkX 3 a b f), .int .u32 (Fl.flagsF 3 a b f), .bool true]) ∧ Below w.heap.size w w' := by
  have c0 : rkC[6]? = some (.int .u8 3) := by kernel_rfl
  have c1 : rkC[7]? = some (.int .u8 0) := by kernel_rfl
  have c2 : rkC[8]? = some (.bool false) := by kernel_rfl
  have zW := (Go.zero_of_info rk_info).1
  go_enter Try.func29, Try.ntmps29
  go_upto_region 2 with (first
    | (refine Gu.wpList_pureAt 15 17 _ _ _ ⟨#[.int .i64 2, .int .u32 a, .int .u32 b, .int .u32 f, undef, undef, undef, undef, .int .u32 0, .int .u32 0, .bool false, undef, undef, undef, undef, .agg #[.int .u8 1, .int .u8 0, .bool false], .agg #[.int .u8 2, .int .u8 0, .bool false], .agg #[.int .u8 3, .int .u8 0, .bool false], .agg #[.int .u8 4, .int .u8 0, .bool false], .agg #[.int .u8 5, .int .u8 1, .bool false], .agg #[.int .u8 5, .int .u8 2, .bool false], .agg #[.int .u8 5, .int .u8 3, .bool false], .agg #[.int .u8 3, .int .u8 0, .bool true], .agg #[.int .u8 5, .int .u8 1, .bool true], .agg #[.int .u8 6, .int .u8 0, .bool false], .agg #[.int .u8 7, .int .u8 0, .bool false], .agg #[.int .u8 8, .int .u8 0, .bool false], .agg #[.int .u8 9, .int .u8 0, .bool false], .agg #[.int .u8 10, .int .u8 0, .bool false], .agg #[.int .u8 5, .int .u8 4, .bool false], .agg #[.int .u8 5, .int .u8 5, .bool false], .agg rkC, undef, undef, undef, undef, undef, undef, undef, undef, undef, undef, undef, undef, undef, undef, undef, undef, undef, undef, undef, undef, undef, undef, undef, undef, undef, undef, undef, undef, undef, undef, undef, undef, undef, undef, undef, undef, undef, undef, undef, undef], []⟩ rfl (by kernel_rfl) ?_; simp only [List.drop_succ_cons, List.drop_zero])
    | (refine Gu.wpList_alloc_as rfl 135 rfl _ zW w.heap.size rfl ?_)
    | (refine wpList_store_row rfl 135 _ _ rfl w.heap.size rkC (by rfl) (by rfl) 135 rkZ (heap_alloc_last w _) (Go.zero_of_info rk_info).2 (by rfl) (by kernel_rfl) ?_; rw [World.setRow_alloc_new]))
  go_wp2
  go_region_held3 (fun w' => w'.cell? ⟨w.heap.size + 1, 0, none⟩ = some (.int .u8 3) ∧ w'.cell? ⟨w.heap.size + 1, 1, none⟩ = some (.int .u8 0)) (first | (simp [go_sem, k0, k1]; done) | (simp [go_sem]; done))
    (first
    | (go_at_call 85; refine (taken0 a b _).mono ?_; rintro e w1 ⟨rfl, rfl⟩)
    | (go_at_call 84; refine (work_any 3 a b f _ ha hb hf).mono ?_; rintro e w1 ⟨rfl, hB⟩; have k0 := rk_row (wk_belD hB) 0; have k1 := rk_row (wk_belD hB) 1; have k2 := rk_row (wk_belD hB) 2; simp at k0 k1 k2))
  all_goals go_wp2
  all_goals go_ret3
  all_goals exact ⟨ret3 rfl rfl rfl, wk_belT (wk_belD hB)⟩
set_option maxHeartbeats 1000000 in
theorem rk2z (a b f : Nat) (w : World) (ha : a < 4294967296) (hb : b < 4294967296) (hf : f < 4294967296) (hz : ((b : Int) == 0) = true) :
    Calls Try.prog 29 #[.int .i64 2, .int .u32 a, .int .u32 b, .int .u32 f] w fun e w' => e = .returned (.tuple #[.int .u32 (wkX 3 a b f), .int .u32 (Fl.flagsF 3 a b f), .bool true]) ∧ Below w.heap.size w w' := by
  have c0 : rkC[6]? = some (.int .u8 3) := by kernel_rfl
  have c1 : rkC[7]? = some (.int .u8 0) := by kernel_rfl
  have c2 : rkC[8]? = some (.bool false) := by kernel_rfl
  have zW := (Go.zero_of_info rk_info).1
  go_enter Try.func29, Try.ntmps29
  go_upto_region 2 with (first
    | (refine Gu.wpList_pureAt 15 17 _ _ _ ⟨#[.int .i64 2, .int .u32 a, .int .u32 b, .int .u32 f, undef, undef, undef, undef, .int .u32 0, .int .u32 0, .bool false, undef, undef, undef, undef, .agg #[.int .u8 1, .int .u8 0, .bool false], .agg #[.int .u8 2, .int .u8 0, .bool false], .agg #[.int .u8 3, .int .u8 0, .bool false], .agg #[.int .u8 4, .int .u8 0, .bool false], .agg #[.int .u8 5, .int .u8 1, .bool false], .agg #[.int .u8 5, .int .u8 2, .bool false], .agg #[.int .u8 5, .int .u8 3, .bool false], .agg #[.int .u8 3, .int .u8 0, .bool true], .agg #[.int .u8 5, .int .u8 1, .bool true], .agg #[.int .u8 6, .int .u8 0, .bool false], .agg #[.int .u8 7, .int .u8 0, .bool false], .agg #[.int .u8 8, .int .u8 0, .bool false], .agg #[.int .u8 9, .int .u8 0, .bool false], .agg #[.int .u8 10, .int .u8 0, .bool false], .agg #[.int .u8 5, .int .u8 4, .bool false], .agg #[.int .u8 5, .int .u8 5, .bool false], .agg rkC, undef, undef, undef, undef, undef, undef, undef, undef, undef, undef, undef, undef, undef, undef, undef, undef, undef, undef, undef, undef, undef, undef, undef, undef, undef, undef, undef, undef, undef, undef, undef, undef, undef, undef, undef, undef, undef, undef, undef, undef], []⟩ rfl (by kernel_rfl) ?_; simp only [List.drop_succ_cons, List.drop_zero])
    | (refine Gu.wpList_alloc_as rfl 135 rfl _ zW w.heap.size rfl ?_)
    | (refine wpList_store_row rfl 135 _ _ rfl w.heap.size rkC (by rfl) (by rfl) 135 rkZ (heap_alloc_last w _) (Go.zero_of_info rk_info).2 (by rfl) (by kernel_rfl) ?_; rw [World.setRow_alloc_new]))
  go_wp2
  go_region_held3 (fun w' => w'.cell? ⟨w.heap.size + 1, 0, none⟩ = some (.int .u8 3) ∧ w'.cell? ⟨w.heap.size + 1, 1, none⟩ = some (.int .u8 0)) (first | (simp [go_sem, k0, k1]; done) | (simp [go_sem]; done))
    (first
    | (go_at_call 85; refine (taken0 a b _).mono ?_; rintro e w1 ⟨rfl, rfl⟩)
    | (go_at_call 84; refine (work_any 3 a b f _ ha hb hf).mono ?_; rintro e w1 ⟨rfl, hB⟩; have k0 := rk_row (wk_belD hB) 0; have k1 := rk_row (wk_belD hB) 1; have k2 := rk_row (wk_belD hB) 2; simp at k0 k1 k2))
  all_goals go_wp2
  all_goals go_ret3
  all_goals exact ⟨ret3 rfl rfl rfl, wk_belT (wk_belD hB)⟩
set_option maxHeartbeats 1000000 in
theorem rk3n (a b f : Nat) (w : World) (ha : a < 4294967296) (hb : b < 4294967296) (hf : f < 4294967296) (hz : ((b : Int) == 0) = false) :
    Calls Try.prog 29 #[.int .i64 3, .int .u32 a, .int .u32 b, .int .u32 f] w fun e w' => e = .returned (.tuple #[.int .u32 (wkX 4 a b f), .int .u32 (Fl.flagsF 4 a b f), .bool true]) ∧ Below w.heap.size w w' := by
  have c0 : rkC[9]? = some (.int .u8 4) := by kernel_rfl
  have c1 : rkC[10]? = some (.int .u8 0) := by kernel_rfl
  have c2 : rkC[11]? = some (.bool false) := by kernel_rfl
  have zW := (Go.zero_of_info rk_info).1
  go_enter Try.func29, Try.ntmps29
  go_upto_region 2 with (first
    | (refine Gu.wpList_pureAt 15 17 _ _ _ ⟨#[.int .i64 3, .int .u32 a, .int .u32 b, .int .u32 f, undef, undef, undef, undef, .int .u32 0, .int .u32 0, .bool false, undef, undef, undef, undef, .agg #[.int .u8 1, .int .u8 0, .bool false], .agg #[.int .u8 2, .int .u8 0, .bool false], .agg #[.int .u8 3, .int .u8 0, .bool false], .agg #[.int .u8 4, .int .u8 0, .bool false], .agg #[.int .u8 5, .int .u8 1, .bool false], .agg #[.int .u8 5, .int .u8 2, .bool false], .agg #[.int .u8 5, .int .u8 3, .bool false], .agg #[.int .u8 3, .int .u8 0, .bool true], .agg #[.int .u8 5, .int .u8 1, .bool true], .agg #[.int .u8 6, .int .u8 0, .bool false], .agg #[.int .u8 7, .int .u8 0, .bool false], .agg #[.int .u8 8, .int .u8 0, .bool false], .agg #[.int .u8 9, .int .u8 0, .bool false], .agg #[.int .u8 10, .int .u8 0, .bool false], .agg #[.int .u8 5, .int .u8 4, .bool false], .agg #[.int .u8 5, .int .u8 5, .bool false], .agg rkC, undef, undef, undef, undef, undef, undef, undef, undef, undef, undef, undef, undef, undef, undef, undef, undef, undef, undef, undef, undef, undef, undef, undef, undef, undef, undef, undef, undef, undef, undef, undef, undef, undef, undef, undef, undef, undef, undef, undef, undef], []⟩ rfl (by kernel_rfl) ?_; simp only [List.drop_succ_cons, List.drop_zero])
    | (refine Gu.wpList_alloc_as rfl 135 rfl _ zW w.heap.size rfl ?_)
    | (refine wpList_store_row rfl 135 _ _ rfl w.heap.size rkC (by rfl) (by rfl) 135 rkZ (heap_alloc_last w _) (Go.zero_of_info rk_info).2 (by rfl) (by kernel_rfl) ?_; rw [World.setRow_alloc_new]))
  go_wp2
  go_region_held3 (fun w' => w'.cell? ⟨w.heap.size + 1, 0, none⟩ = some (.int .u8 4) ∧ w'.cell? ⟨w.heap.size + 1, 1, none⟩ = some (.int .u8 0)) (first | (simp [go_sem, k0, k1]; done) | (simp [go_sem]; done))
    (first
    | (go_at_call 85; refine (taken0 a b _).mono ?_; rintro e w1 ⟨rfl, rfl⟩)
    | (go_at_call 84; refine (work_any 4 a b f _ ha hb hf).mono ?_; rintro e w1 ⟨rfl, hB⟩; have k0 := rk_row (wk_belD hB) 0; have k1 := rk_row (wk_belD hB) 1; have k2 := rk_row (wk_belD hB) 2; simp at k0 k1 k2))
  all_goals go_wp2
  all_goals go_ret3
  all_goals exact ⟨ret3 rfl rfl rfl, wk_belT (wk_belD hB)⟩
set_option maxHeartbeats 1000000 in
theorem rk3z (a b f : Nat) (w : World) (ha : a < 4294967296) (hb : b < 4294967296) (hf : f < 4294967296) (hz : ((b : Int) == 0) = true) :
    Calls Try.prog 29 #[.int .i64 3, .int .u32 a, .int .u32 b, .int .u32 f] w fun e w' => e = .returned (.tuple #[.int .u32 (wkX 4 a b f), .int .u32 (Fl.flagsF 4 a b f), .bool true]) ∧ Below w.heap.size w w' := by
  have c0 : rkC[9]? = some (.int .u8 4) := by kernel_rfl
  have c1 : rkC[10]? = some (.int .u8 0) := by kernel_rfl
  have c2 : rkC[11]? = some (.bool false) := by kernel_rfl
  have zW := (Go.zero_of_info rk_info).1
  go_enter Try.func29, Try.ntmps29
  go_upto_region 2 with (first
    | (refine Gu.wpList_pureAt 15 17 _ _ _ ⟨#[.int .i64 3, .int .u32 a, .int .u32 b, .int .u32 f, undef, undef, undef, undef, .int .u32 0, .int .u32 0, .bool false, undef, undef, undef, undef, .agg #[.int .u8 1, .int .u8 0, .bool false], .agg #[.int .u8 2, .int .u8 0, .bool false], .agg #[.int .u8 3, .int .u8 0, .bool false], .agg #[.int .u8 4, .int .u8 0, .bool false], .agg #[.int .u8 5, .int .u8 1, .bool false], .agg #[.int .u8 5, .int .u8 2, .bool false], .agg #[.int .u8 5, .int .u8 3, .bool false], .agg #[.int .u8 3, .int .u8 0, .bool true], .agg #[.int .u8 5, .int .u8 1, .bool true], .agg #[.int .u8 6, .int .u8 0, .bool false], .agg #[.int .u8 7, .int .u8 0, .bool false], .agg #[.int .u8 8, .int .u8 0, .bool false], .agg #[.int .u8 9, .int .u8 0, .bool false], .agg #[.int .u8 10, .int .u8 0, .bool false], .agg #[.int .u8 5, .int .u8 4, .bool false], .agg #[.int .u8 5, .int .u8 5, .bool false], .agg rkC, undef, undef, undef, undef, undef, undef, undef, undef, undef, undef, undef, undef, undef, undef, undef, undef, undef, undef, undef, undef, undef, undef, undef, undef, undef, undef, undef, undef, undef, undef, undef, undef, undef, undef, undef, undef, undef, undef, undef, undef], []⟩ rfl (by kernel_rfl) ?_; simp only [List.drop_succ_cons, List.drop_zero])
    | (refine Gu.wpList_alloc_as rfl 135 rfl _ zW w.heap.size rfl ?_)
    | (refine wpList_store_row rfl 135 _ _ rfl w.heap.size rkC (by rfl) (by rfl) 135 rkZ (heap_alloc_last w _) (Go.zero_of_info rk_info).2 (by rfl) (by kernel_rfl) ?_; rw [World.setRow_alloc_new]))
  go_wp2
  go_region_held3 (fun w' => w'.cell? ⟨w.heap.size + 1, 0, none⟩ = some (.int .u8 4) ∧ w'.cell? ⟨w.heap.size + 1, 1, none⟩ = some (.int .u8 0)) (first | (simp [go_sem, k0, k1]; done) | (simp [go_sem]; done))
    (first
    | (go_at_call 85; refine (taken0 a b _).mono ?_; rintro e w1 ⟨rfl, rfl⟩)
    | (go_at_call 84; refine (work_any 4 a b f _ ha hb hf).mono ?_; rintro e w1 ⟨rfl, hB⟩; have k0 := rk_row (wk_belD hB) 0; have k1 := rk_row (wk_belD hB) 1; have k2 := rk_row (wk_belD hB) 2; simp at k0 k1 k2))
  all_goals go_wp2
  all_goals go_ret3
  all_goals exact ⟨ret3 rfl rfl rfl, wk_belT (wk_belD hB)⟩
end Go.Proofs.Ytkgbjpdoigdjnaa

namespace Go.Proofs.Ytkgbjpdoigdjnaa
open Go.RowKit
set_option maxRecDepth 100000
set_option linter.unusedVariables false
set_option linter.unusedSimpArgs false
set_option maxHeartbeats 1000000 in
theorem rk4n (a b f x : Nat) (w : World) (hx : Fl.bitN 4 a b = x) (hxl : x < 4294967296) (ha : a < 4294967296) (hb : b < 4294967296) (hf : f < 4294967296) (hz : ((b : Int) == 0) = false) :
    Calls Try.prog 29 #[.int .i64 4, .int .u32 a, .int .u32 b, .int .u32 f] w fun e w' => e = .returned (.tuple #[.int .u32 (wkX 5 x b f), .int .u32 (Fl.flagsF 5 x b f), .bool true]) ∧ Below w.heap.size w w' := by
  have c0 : rkC[12]? = some (.int .u8 5) := by kernel_rfl
  have c1 : rkC[13]? = some (.int .u8 1) := by kernel_rfl
  have c2 : rkC[14]? = some (.bool false) := by kernel_rfl
  have zW := (Go.zero_of_info rk_info).1
  have HX : Hid _ := hx
  clear hx
  go_enter Try.func29, Try.ntmps29
  go_upto_region 2 with (first
    | (refine Gu.wpList_pureAt 15 17 _ _ _ ⟨#[.int .i64 4, .int .u32 a, .int .u32 b, .int .u32 f, undef, undef, undef, undef, .int .u32 0, .int .u32 0, .bool false, undef, undef, undef, undef, .agg #[.int .u8 1, .int .u8 0, .bool false], .agg #[.int .u8 2, .int .u8 0, .bool false], .agg #[.int .u8 3, .int .u8 0, .bool false], .agg #[.int .u8 4, .int .u8 0, .bool false], .agg #[.int .u8 5, .int .u8 1, .bool false], .agg #[.int .u8 5, .int .u8 2, .bool false], .agg #[.int .u8 5, .int .u8 3, .bool false], .agg #[.int .u8 3, .int .u8 0, .bool true], .agg #[.int .u8 5, .int .u8 1, .bool true], .agg #[.int .u8 6, .int .u8 0, .bool false], .agg #[.int .u8 7, .int .u8 0, .bool false], .agg #[.int .u8 8, .int .u8 0, .bool false], .agg #[.int .u8 9, .int .u8 0, .bool false], .agg #[.int .u8 10, .int .u8 0, .bool false], .agg #[.int .u8 5, .int .u8 4, .bool false], .agg #[.int .u8 5, .int .u8 5, .bool false], .agg rkC, undef, undef, undef, undef, undef, undef, undef, undef, undef, undef, undef, undef, undef, undef, undef, undef, undef, undef, undef, undef, undef, undef, undef, undef, undef, undef, undef, undef, undef, undef, undef, undef, undef, undef, undef, undef, undef, undef, undef, undef], []⟩ rfl (by kernel_rfl) ?_; simp only [List.drop_succ_cons, List.drop_zero])
    | (refine Gu.wpList_alloc_as rfl 135 rfl _ zW w.heap.size rfl ?_)
    | (refine wpList_store_row rfl 135 _ _ rfl w.heap.size rkC (by rfl) (by rfl) 135 rkZ (heap_alloc_last w _) (Go.zero_of_info rk_info).2 (by rfl) (by kernel_rfl) ?_; rw [World.setRow_alloc_new]))
  go_wp2
  go_region_held3 (fun w' => w'.cell? ⟨w.heap.size + 1, 0, none⟩ = some (.int .u8 5) ∧ w'.cell? ⟨w.heap.size + 1, 1, none⟩ = some (.int .u8 1)) (first | (simp [go_sem, k0, k1]; done) | (simp [go_sem]; done))
    (first
    | (go_at_call 85; refine (taken1 a b x _ HX.out ha hb).mono ?_; rintro e w1 ⟨rfl, rfl⟩)
    | (go_at_call 84; refine (work_any 5 x b f _ hxl hb hf).mono ?_; rintro e w1 ⟨rfl, hB⟩; have k0 := rk_row (wk_belD hB) 0; have k1 := rk_row (wk_belD hB) 1; have k2 := rk_row (wk_belD hB) 2; simp at k0 k1 k2))
  all_goals go_wp2
  all_goals go_ret3
  all_goals exact ⟨ret3 rfl rfl rfl, wk_belT (wk_belD hB)⟩
set_option maxHeartbeats 1000000 in
theorem rk4z (a b f x : Nat) (w : World) (hx : Fl.bitN 4 a b = x) (hxl : x < 4294967296) (ha : a < 4294967296) (hb : b < 4294967296) (hf : f < 4294967296) (hz : ((b : Int) == 0) = true) :
    Calls Try.prog 29 #[.int .i64 4, .int .u32 a, .int .u32 b, .int .u32 f] w fun e w' => e = .returned (.tuple #[.int .u32 (wkX 5 x b f), .int .u32 (Fl.flagsF 5 x b f), .bool true]) ∧ Below w.heap.size w w' := by
  have c0 : rkC[12]? = some (.int .u8 5) := by kernel_rfl
  have c1 : rkC[13]? = some (.int .u8 1) := by kernel_rfl
  have c2 : rkC[14]? = some (.bool false) := by kernel_rfl
  have zW := (Go.zero_of_info rk_info).1
  have HX : Hid _ := hx
  clear hx
  go_enter Try.func29, Try.ntmps29
  go_upto_region 2 with (first
    | (refine Gu.wpList_pureAt 15 17 _ _ _ ⟨#[.int .i64 4, .int .u32 a, .int .u32 b, .int .u32 f, undef, undef, undef, undef, .int .u32 0, .int .u32 0, .bool false, undef, undef, undef, undef, .agg #[.int .u8 1, .int .u8 0, .bool false], .agg #[.int .u8 2, .int .u8 0, .bool false], .agg #[.int .u8 3, .int .u8 0, .bool false], .agg #[.int .u8 4, .int .u8 0, .bool false], .agg #[.int .u8 5, .int .u8 1, .bool false], .agg #[.int .u8 5, .int .u8 2, .bool false], .agg #[.int .u8 5, .int .u8 3, .bool false], .agg #[.int .u8 3, .int .u8 0, .bool true], .agg #[.int .u8 5, .int .u8 1, .bool true], .agg #[.int .u8 6, .int .u8 0, .bool false], .agg #[.int .u8 7, .int .u8 0, .bool false], .agg #[.int .u8 8, .int .u8 0, .bool false], .agg #[.int .u8 9, .int .u8 0, .bool false], .agg #[.int .u8 10, .int .u8 0, .bool false], .agg #[.int .u8 5, .int .u8 4, .bool false], .agg #[.int .u8 5, .int .u8 5, .bool false], .agg rkC, undef, undef, undef, undef, undef, undef, undef, undef, undef, undef, undef, undef, undef, undef, undef, undef, undef, undef, undef, undef, undef, undef, undef, undef, undef, undef, undef, undef, undef, undef, undef, undef, undef, undef, undef, undef, undef, undef, undef, undef], []⟩ rfl (by kernel_rfl) ?_; simp only [List.drop_succ_cons, List.drop_zero])
    | (refine Gu.wpList_alloc_as rfl 135 rfl _ zW w.heap.size rfl ?_)
    | (refine wpList_store_row rfl 135 _ _ rfl w.heap.size rkC (by rfl) (by rfl) 135 rkZ (heap_alloc_last w _) (Go.zero_of_info rk_info).2 (by rfl) (by kernel_rfl) ?_; rw [World.setRow_alloc_new]))
  go_wp2
  go_region_held3 (fun w' => w'.cell? ⟨w.heap.size + 1, 0, none⟩ = some (.int .u8 5) ∧ w'.cell? ⟨w.heap.size + 1, 1, none⟩ = some (.int .u8 1)) (first | (simp [go_sem, k0, k1]; done) | (simp [go_sem]; done))
    (first
    | (go_at_call 85; refine (taken1 a b x _ HX.out ha hb).mono ?_; rintro e w1 ⟨rfl, rfl⟩)
    | (go_at_call 84; refine (work_any 5 x b f _ hxl hb hf).mono ?_; rintro e w1 ⟨rfl, hB⟩; have k0 := rk_row (wk_belD hB) 0; have k1 := rk_row (wk_belD hB) 1; have k2 := rk_row (wk_belD hB) 2; simp at k0 k1 k2))
  all_goals go_wp2
  all_goals go_ret3
  all_goals exact ⟨ret3 rfl rfl rfl, wk_belT (wk_belD hB)⟩
set_option maxHeartbeats 1000000 in
theorem rk5n (a b f x : Nat) (w : World) (hx : Fl.bitN 5 a b = x) (hxl : x < 4294967296) (ha : a < 4294967296) (hb : b < 4294967296) (hf : f < 4294967296) (hz : ((b : Int) == 0) = false) :
    Calls Try.prog 29 #[.int .i64 5, .int .u32 a, .int .u32 b, .int .u32 f] w fun e w' => e = .returned (.tuple #[.int .u32 (wkX 5 x b f), .int .u32 (Fl.flagsF 5 x b f), .bool true]) ∧ Below w.heap.size w w' := by
  have c0 : rkC[15]? = some (.int .u8 5) := by kernel_rfl
  have c1 : rkC[16]? = some (.int .u8 2) := by kernel_rfl
  have c2 : rkC[17]? = some (.bool false) := by kernel_rfl
  have zW := (Go.zero_of_info rk_info).1
  have HX : Hid _ := hx
  clear hx
  go_enter Try.func29, Try.ntmps29
  go_upto_region 2 with (first
    | (refine Gu.wpList_pureAt 15 17 _ _ _ ⟨#[.int .i64 5, .int .u32 a, .int .u32 b, .int .u32 f, undef, undef, undef, undef, .int .u32 0, .int .u32 0, .bool false, undef, undef, undef, undef, .agg #[.int .u8 1, .int .u8 0, .bool false], .agg #[.int .u8 2, .int .u8 0, .bool false], .agg #[.int .u8 3, .int .u8 0, .bool false], .agg #[.int .u8 4, .int .u8 0, .bool false], .agg #[.int .u8 5, .int .u8 1, .bool false], .agg #[.int .u8 5, .int .u8 2, .bool false], .agg #[.int .u8 5, .int .u8 3, .bool false], .agg #[.int .u8 3, .int .u8 0, .bool true], .agg #[.int .u8 5, .int .u8 1, .bool true], .agg #[.int .u8 6, .int .u8 0, .bool false], .agg #[.int .u8 7, .int .u8 0, .bool false], .agg #[.int .u8 8, .int .u8 0, .bool false], .agg #[.int .u8 9, .int .u8 0, .bool false], .agg #[.int .u8 10, .int .u8 0, .bool false], .agg #[.int .u8 5, .int .u8 4, .bool false], .agg #[.int .u8 5, .int .u8 5, .bool false], .agg rkC, undef, undef, undef, undef, undef, undef, undef, undef, undef, undef, undef, undef, undef, undef, undef, undef, undef, undef, undef, undef, undef, undef, undef, undef, undef, undef, undef, undef, undef, undef, undef, undef, undef, undef, undef, undef, undef, undef, undef, undef], []⟩ rfl (by kernel_rfl) ?_; simp only [List.drop_succ_cons, List.drop_zero])
    | (refine Gu.wpList_alloc_as rfl 135 rfl _ zW w.heap.size rfl ?_)
    | (refine wpList_store_row rfl 135 _ _ rfl w.heap.size rkC (by rfl) (by rfl) 135 rkZ (heap_alloc_last w _) (Go.zero_of_info rk_info).2 (by rfl) (by kernel_rfl) ?_; rw [World.setRow_alloc_new]))
  go_wp2
  go_region_held3 (fun w' => w'.cell? ⟨w.heap.size + 1, 0, none⟩ = some (.int .u8 5) ∧ w'.cell? ⟨w.heap.size + 1, 1, none⟩ = some (.int .u8 2)) (first | (simp [go_sem, k0, k1]; done) | (simp [go_sem]; done))
    (first
    | (go_at_call 85; refine (taken2 a b x _ HX.out ha hb).mono ?_; rintro e w1 ⟨rfl, rfl⟩)
    | (go_at_call 84; refine (work_any 5 x b f _ hxl hb hf).mono ?_; rintro e w1 ⟨rfl, hB⟩; have k0 := rk_row (wk_belD hB) 0; have k1 := rk_row (wk_belD hB) 1; have k2 := rk_row (wk_belD hB) 2; simp at k0 k1 k2))
  all_goals go_wp2
  all_goals go_ret3
  all_goals exact ⟨ret3 rfl rfl rfl, wk_belT (wk_belD hB)⟩
set_option maxHeartbeats 1000000 in
theorem rk5z (a b f x : Nat) (w : World) (hx : Fl.bitN 5 a b = x) (hxl : x < 4294967296) (ha : a < 4294967296) (hb : b < 4294967296) (hf : f < 4294967296) (hz : ((b : Int) == 0) = true) :
    Calls Try.prog 29 #[.int .i64 5, .int .u32 a, .int .u32 b, .int .u32 f] w fun e w' => e = .returned (.tuple #[.int .u32 (wkX 5 x b f), .int .u32 (Fl.flagsF 5 x b f), .bool true]) ∧ Below w.heap.size w w' := by
  have c0 : rkC[15]? = some (.int .u8 5) := by kernel_rfl
  have c1 : rkC[16]? = some (.int .u8 2) := by kernel_rfl
  have c2 : rkC[17]? = some (.bool false) := by kernel_rfl
  have zW := (Go.zero_of_info rk_info).1
  have HX : Hid _ := hx
  clear hx
  go_enter Try.func29, Try.ntmps29
  go_upto_region 2 with (first
    | (refine Gu.wpList_pureAt 15 17 _ _ _ ⟨#[.int .i64 5, .int .u32 a, .int .u32 b, .int .u32 f, undef, undef, undef, undef, .int .u32 0, .int .u32 0, .bool false, undef, undef, undef, undef, .agg #[.int .u8 1, .int .u8 0, .bool false], .agg #[.int .u8 2, .int .u8 0, .bool false], .agg #[.int .u8 3, .int .u8 0, .bool false], .agg #[.int .u8 4, .int .u8 0, .bool false], .agg #[.int .u8 5, .int .u8 1, .bool false], .agg #[.int .u8 5, .int .u8 2, .bool false], .agg #[.int .u8 5, .int .u8 3, .bool false], .agg #[.int .u8 3, .int .u8 0, .bool true], .agg #[.int .u8 5, .int .u8 1, .bool true], .agg #[.int .u8 6, .int .u8 0, .bool false], .agg #[.int .u8 7, .int .u8 0, .bool false], .agg #[.int .u8 8, .int .u8 0, .bool false], .agg #[.int .u8 9, .int .u8 0, .bool false], .agg #[.int .u8 10, .int .u8 0, .bool false], .agg #[.int .u8 5, .int .u8 4, .bool false], .agg #[.int .u8 5, .int .u8 5, .bool false], .agg rkC, undef, undef, undef, undef, undef, undef, undef, undef, undef, undef, undef, undef, undef, undef, undef, undef, undef, undef, undef, undef, undef, undef, undef, undef, undef, undef, undef, undef, undef, undef, undef, undef, undef, undef, undef, undef, undef, undef, undef, undef], []⟩ rfl (by kernel_rfl) ?_; simp only [List.drop_succ_cons, List.drop_zero])
    | (refine Gu.wpList_alloc_as rfl 135 rfl _ zW w.heap.size rfl ?_)
    | (refine wpList_store_row rfl 135 _ _ rfl w.heap.size rkC (by rfl) (by rfl) 135 rkZ (heap_alloc_last w _) (Go.zero_of_info rk_info).2 (by rfl) (by kernel_rfl) ?_; rw [World.setRow_alloc_new]))
  go_wp2
  go_region_held3 (fun w' => w'.cell? ⟨w.heap.size + 1, 0, none⟩ = some (.int .u8 5) ∧ w'.cell? ⟨w.heap.size + 1, 1, none⟩ = some (.int .u8 2)) (first | (simp [go_sem, k0, k1]; done) | (simp [go_sem]; done))
    (first
    | (go_at_call 85; refine (taken2 a b x _ HX.out ha hb).mono ?_; rintro e w1 ⟨rfl, rfl⟩)
    | (go_at_call 84; refine (work_any 5 x b f _ hxl hb hf).mono ?_; rintro e w1 ⟨rfl, hB⟩; have k0 := rk_row (wk_belD hB) 0; have k1 := rk_row (wk_belD hB) 1; have k2 := rk_row (wk_belD hB) 2; simp at k0 k1 k2))
  all_goals go_wp2
  all_goals go_ret3
  all_goals exact ⟨ret3 rfl rfl rfl, wk_belT (wk_belD hB)⟩
set_option maxHeartbeats 1000000 in
theorem rk6n (a b f x : Nat) (w : World) (hx : Fl.bitN 6 a b = x) (hxl : x < 4294967296) (ha : a < 4294967296) (hb : b < 4294967296) (hf : f < 4294967296) (hz : ((b : Int) == 0) = false) :
    Calls Try.prog 29 #[.int .i64 6, .int .u32 a, .int .u32 b, .int .u32 f] w fun e w' => e = .returned (.tuple #[.int .u32 (wkX 5 x b f), .int .u32 (Fl.flagsF 5 x b f), .bool true]) ∧ Below w.heap.size w w' := by
  have c0 : rkC[18]? = some (.int .u8 5) := by kernel_rfl
  have c1 : rkC[19]? = some (.int .u8 3) := by kernel_rfl
  have c2 : rkC[20]? = some (.bool false) := by kernel_rfl
  have zW := (Go.zero_of_info rk_info).1
  have HX : Hid _ := hx
  clear hx
  go_enter Try.func29, Try.ntmps29
  go_upto_region 2 with (first
    | (refine Gu.wpList_pureAt 15 17 _ _ _ ⟨#[.int .i64 6, .int .u32 a, .int .u32 b, .int .u32 f, undef, undef, undef, undef, .int .u32 0, .int .u32 0, .bool false, undef, undef, undef, undef, .agg #[.int .u8 1, .int .u8 0, .bool false], .agg #[.int .u8 2, .int .u8 0, .bool false], .agg #[.int .u8 3, .int .u8 0, .bool false], .agg #[.int .u8 4, .int .u8 0, .bool false], .agg #[.int .u8 5, .int .u8 1, .bool false], .agg #[.int .u8 5, .int .u8 2, .bool false], .agg #[.int .u8 5, .int .u8 3, .bool false], .agg #[.int .u8 3, .int .u8 0, .bool true], .agg #[.int .u8 5, .int .u8 1, .bool true], .agg #[.int .u8 6, .int .u8 0, .bool false], .agg #[.int .u8 7, .int .u8 0, .bool false], .agg #[.int .u8 8, .int .u8 0, .bool false], .agg #[.int .u8 9, .int .u8 0, .bool false], .agg #[.int .u8 10, .int .u8 0, .bool false], .agg #[.int .u8 5, .int .u8 4, .bool false], .agg #[.int .u8 5, .int .u8 5, .bool false], .agg rkC, undef, undef, undef, undef, undef, undef, undef, undef, undef, undef, undef, undef, undef, undef, undef, undef, undef, undef, undef, undef, undef, undef, undef, undef, undef, undef, undef, undef, undef, undef, undef, undef, undef, undef, undef, undef, undef, undef, undef, undef], []⟩ rfl (by kernel_rfl) ?_; simp only [List.drop_succ_cons, List.drop_zero])
    | (refine Gu.wpList_alloc_as rfl 135 rfl _ zW w.heap.size rfl ?_)
    | (refine wpList_store_row rfl 135 _ _ rfl w.heap.size rkC (by rfl) (by rfl) 135 rkZ (heap_alloc_last w _) (Go.zero_of_info rk_info).2 (by rfl) (by kernel_rfl) ?_; rw [World.setRow_alloc_new]))
  go_wp2
  go_region_held3 (fun w' => w'.cell? ⟨w.heap.size + 1, 0, none⟩ = some (.int .u8 5) ∧ w'.cell? ⟨w.heap.size + 1, 1, none⟩ = some (.int .u8 3)) (first | (simp [go_sem, k0, k1]; done) | (simp [go_sem]; done))
    (first
    | (go_at_call 85; refine (taken3 a b x _ HX.out ha hb).mono ?_; rintro e w1 ⟨rfl, rfl⟩)
    | (go_at_call 84; refine (work_any 5 x b f _ hxl hb hf).mono ?_; rintro e w1 ⟨rfl, hB⟩; have k0 := rk_row (wk_belD hB) 0; have k1 := rk_row (wk_belD hB) 1; have k2 := rk_row (wk_belD hB) 2; simp at k0 k1 k2))
  all_goals go_wp2
  all_goals go_ret3
  all_goals exact ⟨ret3 rfl rfl rfl, wk_belT (wk_belD hB)⟩
set_option maxHeartbeats 1000000 in
theorem rk6z (a b f x : Nat) (w : World) (hx : Fl.bitN 6 a b = x) (hxl : x < 4294967296) (ha : a < 4294967296) (hb : b < 4294967296) (hf : f < 4294967296) (hz : ((b : Int) == 0) = true) :
    Calls Try.prog 29 #[.int .i64 6, .int .u32 a, .int .u32 b, .int .u32 f] w fun e w' => e = .returned (.tuple #[.int .u32 (wkX 5 x b f), .int .u32 (Fl.flagsF 5 x b f), .bool true]) ∧ Below w.heap.size w w' := by
  have c0 : rkC[18]? = some (.int .u8 5) := by kernel_rfl
  have c1 : rkC[19]? = some (.int .u8 3) := by kernel_rfl
  have c2 : rkC[20]? = some (.bool false) := by kernel_rfl
  have zW := (Go.zero_of_info rk_info).1
  have HX : Hid _ := hx
  clear hx
  go_enter Try.func29, Try.ntmps29
  go_upto_region 2 with (first
    | (refine Gu.wpList_pureAt 15 17 _ _ _ ⟨#[.int .i64 6, .int .u32 a, .int .u32 b, .int .u32 f, undef, undef, undef, undef, .int .u32 0, .int .u32 0, .bool false, undef, undef, undef, undef, .agg #[.int .u8 1, .int .u8 0, .bool false], .agg #[.int .u8 2, .int .u8 0, .bool false], .agg #[.int .u8 3, .int .u8 0, .bool false], .agg #[.int .u8 4, .int .u8 0, .bool false], .agg #[.int .u8 5, .int .u8 1, .bool false], .agg #[.int .u8 5, .int .u8 2, .bool false], .agg #[.int .u8 5, .int .u8 3, .bool false], .agg #[.int .u8 3, .int .u8 0, .bool true], .agg #[.int .u8 5, .int .u8 1, .bool true], .agg #[.int .u8 6, .int .u8 0, .bool false], .agg #[.int .u8 7, .int .u8 0, .bool false], .agg #[.int .u8 8, .int .u8 0, .bool false], .agg #[.int .u8 9, .int .u8 0, .bool false], .agg #[.int .u8 10, .int .u8 0, .bool false], .agg #[.int .u8 5, .int .u8 4, .bool false], .agg #[.int .u8 5, .int .u8 5, .bool false], .agg rkC, undef, undef, undef, undef, undef, undef, undef, undef, undef, undef, undef, undef, undef, undef, undef, undef, undef, undef, undef, undef, undef, undef, undef, undef, undef, undef, undef, undef, undef, undef, undef, undef, undef, undef, undef, undef, undef, undef, undef, undef], []⟩ rfl (by kernel_rfl) ?_; simp only [List.drop_succ_cons, List.drop_zero])
    | (refine Gu.wpList_alloc_as rfl 135 rfl _ zW w.heap.size rfl ?_)
    | (refine wpList_store_row rfl 135 _ _ rfl w.heap.size rkC (by rfl) (by rfl) 135 rkZ (heap_alloc_last w _) (Go.zero_of_info rk_info).2 (by rfl) (by kernel_rfl) ?_; rw [World.setRow_alloc_new]))
  go_wp2
  go_region_held3 (fun w' => w'.cell? ⟨w.heap.size + 1, 0, none⟩ = some (.int .u8 5) ∧ w'.cell? ⟨w.heap.size + 1, 1, none⟩ = some (.int .u8 3)) (first | (simp [go_sem, k0, k1]; done) | (simp [go_sem]; done))
    (first
    | (go_at_call 85; refine (taken3 a b x _ HX.out ha hb).mono ?_; rintro e w1 ⟨rfl, rfl⟩)
    | (go_at_call 84; refine (work_any 5 x b f _ hxl hb hf).mono ?_; rintro e w1 ⟨rfl, hB⟩; have k0 := rk_row (wk_belD hB) 0; have k1 := rk_row (wk_belD hB) 1; have k2 := rk_row (wk_belD hB) 2; simp at k0 k1 k2))
  all_goals go_wp2
  all_goals go_ret3
  all_goals exact ⟨ret3 rfl rfl rfl, wk_belT (wk_belD hB)⟩
set_option maxHeartbeats 1000000 in
theorem rk7n (a b f : Nat) (w : World) (ha : a < 4294967296) (hb : b < 4294967296) (hf : f < 4294967296) (hz : ((b : Int) == 0) = false) :
    Calls Try.prog 29 #[.int .i64 7, .int .u32 a, .int .u32 b, .int .u32 f] w fun e w' => e = .returned (.tuple #[.int .u32 ((a : Int)), .int .u32 (Fl.flagsF 3 a b f), .bool true]) ∧ Below w.heap.size w w' := by
  have c0 : rkC[21]? = some (.int .u8 3) := by kernel_rfl
  have c1 : rkC[22]? = some (.int .u8 0) := by kernel_rfl
  have c2 : rkC[23]? = some (.bool true) := by kernel_rfl
  have zW := (Go.zero_of_info rk_info).1
  go_enter Try.func29, Try.ntmps29
  go_upto_region 2 with (first
    | (refine Gu.wpList_pureAt 15 17 _ _ _ ⟨#[.int .i64 7, .int .u32 a, .int .u32 b, .int .u32 f, undef, undef, undef, undef, .int .u32 0, .int .u32 0, .bool false, undef, undef, undef, undef, .agg #[.int .u8 1, .int .u8 0, .bool false], .agg #[.int .u8 2, .int .u8 0, .bool false], .agg #[.int .u8 3, .int .u8 0, .bool false], .agg #[.int .u8 4, .int .u8 0, .bool false], .agg #[.int .u8 5, .int .u8 1, .bool false], .agg #[.int .u8 5, .int .u8 2, .bool false], .agg #[.int .u8 5, .int .u8 3, .bool false], .agg #[.int .u8 3, .int .u8 0, .bool true], .agg #[.int .u8 5, .int .u8 1, .bool true], .agg #[.int .u8 6, .int .u8 0, .bool false], .agg #[.int .u8 7, .int .u8 0, .bool false], .agg #[.int .u8 8, .int .u8 0, .bool false], .agg #[.int .u8 9, .int .u8 0, .bool false], .agg #[.int .u8 10, .int .u8 0, .bool false], .agg #[.int .u8 5, .int .u8 4, .bool false], .agg #[.int .u8 5, .int .u8 5, .bool false], .agg rkC, undef, undef, undef, undef, undef, undef, undef, undef, undef, undef, undef, undef, undef, undef, undef, undef, undef, undef, undef, undef, undef, undef, undef, undef, undef, undef, undef, undef, undef, undef, undef, undef, undef, undef, undef, undef, undef, undef, undef, undef], []⟩ rfl (by kernel_rfl) ?_; simp only [List.drop_succ_cons, List.drop_zero])
    | (refine Gu.wpList_alloc_as rfl 135 rfl _ zW w.heap.size rfl ?_)
    | (refine wpList_store_row rfl 135 _ _ rfl w.heap.size rkC (by rfl) (by rfl) 135 rkZ (heap_alloc_last w _) (Go.zero_of_info rk_info).2 (by rfl) (by kernel_rfl) ?_; rw [World.setRow_alloc_new]))
  go_wp2
  go_region_held3 (fun w' => w'.cell? ⟨w.heap.size + 1, 0, none⟩ = some (.int .u8 3) ∧ w'.cell? ⟨w.heap.size + 1, 1, none⟩ = some (.int .u8 0)) (first | (simp [go_sem, k0, k1]; done) | (simp [go_sem]; done))
    (first
    | (go_at_call 85; refine (taken0 a b _).mono ?_; rintro e w1 ⟨rfl, rfl⟩)
    | (go_at_call 84; refine (work_any 3 a b f _ ha hb hf).mono ?_; rintro e w1 ⟨rfl, hB⟩; have k0 := rk_row (wk_belD hB) 0; have k1 := rk_row (wk_belD hB) 1; have k2 := rk_row (wk_belD hB) 2; simp at k0 k1 k2))
  all_goals go_wp2
  all_goals go_ret3
  all_goals exact ⟨ret3 rfl rfl rfl, wk_belT (wk_belD hB)⟩
set_option maxHeartbeats 1000000 in
theorem rk7z (a b f : Nat) (w : World) (ha : a < 4294967296) (hb : b < 4294967296) (hf : f < 4294967296) (hz : ((b : Int) == 0) = true) :
    Calls Try.prog 29 #[.int .i64 7, .int .u32 a, .int .u32 b, .int .u32 f] w fun e w' => e = .returned (.tuple #[.int .u32 ((a : Int)), .int .u32 (Fl.flagsF 3 a b f), .bool true]) ∧ Below w.heap.size w w' := by
  have c0 : rkC[21]? = some (.int .u8 3) := by kernel_rfl
  have c1 : rkC[22]? = some (.int .u8 0) := by kernel_rfl
  have c2 : rkC[23]? = some (.bool true) := by kernel_rfl
  have zW := (Go.zero_of_info rk_info).1
  go_enter Try.func29, Try.ntmps29
  go_upto_region 2 with (first
    | (refine Gu.wpList_pureAt 15 17 _ _ _ ⟨#[.int .i64 7, .int .u32 a, .int .u32 b, .int .u32 f, undef, undef, undef, undef, .int .u32 0, .int .u32 0, .bool false, undef, undef, undef, undef, .agg #[.int .u8 1, .int .u8 0, .bool false], .agg #[.int .u8 2, .int .u8 0, .bool false], .agg #[.int .u8 3, .int .u8 0, .bool false], .agg #[.int .u8 4, .int .u8 0, .bool false], .agg #[.int .u8 5, .int .u8 1, .bool false], .agg #[.int .u8 5, .int .u8 2, .bool false], .agg #[.int .u8 5, .int .u8 3, .bool false], .agg #[.int .u8 3, .int .u8 0, .bool true], .agg #[.int .u8 5, .int .u8 1, .bool true], .agg #[.int .u8 6, .int .u8 0, .bool false], .agg #[.int .u8 7, .int .u8 0, .bool false], .agg #[.int .u8 8, .int .u8 0, .bool false], .agg #[.int .u8 9, .int .u8 0, .bool false], .agg #[.int .u8 10, .int .u8 0, .bool false], .agg #[.int .u8 5, .int .u8 4, .bool false], .agg #[.int .u8 5, .int .u8 5, .bool false], .agg rkC, undef, undef, undef, undef, undef, undef, undef, undef, undef, undef, undef, undef, undef, undef, undef, undef, undef, undef, undef, undef, undef, undef, undef, undef, undef, undef, undef, undef, undef, undef, undef, undef, undef, undef, undef, undef, undef, undef, undef, undef], []⟩ rfl (by kernel_rfl) ?_; simp only [List.drop_succ_cons, List.drop_zero])
    | (refine Gu.wpList_alloc_as rfl 135 rfl _ zW w.heap.size rfl ?_)
    | (refine wpList_store_row rfl 135 _ _ rfl w.heap.size rkC (by rfl) (by rfl) 135 rkZ (heap_alloc_last w _) (Go.zero_of_info rk_info).2 (by rfl) (by kernel_rfl) ?_; rw [World.setRow_alloc_new]))
  go_wp2
  go_region_held3 (fun w' => w'.cell? ⟨w.heap.size + 1, 0, none⟩ = some (.int .u8 3) ∧ w'.cell? ⟨w.heap.size + 1, 1, none⟩ = some (.int .u8 0)) (first | (simp [go_sem, k0, k1]; done) | (simp [go_sem]; done))
    (first
    | (go_at_call 85; refine (taken0 a b _).mono ?_; rintro e w1 ⟨rfl, rfl⟩)
    | (go_at_call 84; refine (work_any 3 a b f _ ha hb hf).mono ?_; rintro e w1 ⟨rfl, hB⟩; have k0 := rk_row (wk_belD hB) 0; have k1 := rk_row (wk_belD hB) 1; have k2 := rk_row (wk_belD hB) 2; simp at k0 k1 k2))
  all_goals go_wp2
  all_goals go_ret3
  all_goals exact ⟨ret3 rfl rfl rfl, wk_belT (wk_belD hB)⟩
end Go.Proofs.Ytkgbjpdoigdjnaa
