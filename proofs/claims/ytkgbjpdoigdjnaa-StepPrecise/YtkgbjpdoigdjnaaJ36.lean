import Derived.Test.YtkgbjpdoigdjnaaJ32
import Derived.Deep.RegionHeld3
import Derived.Deep.CutBlock
namespace Go.Proofs.Ytkgbjpdoigdjnaa
open Go.RowKit
set_option maxRecDepth 100000
set_option linter.unusedVariables false
set_option linter.unusedSimpArgs false
set_option maxHeartbeats 1000000 in
theorem rk8n (a b f x : Nat) (w : World) (hx : Fl.bitN 4 a b = x) (hxl : x < 4294967296) (ha : a < 4294967296) (hb : b < 4294967296) (hf : f < 4294967296) (hz : ((b : Int) == 0) = false) :
    Calls Try.prog 29 #[.int .i64 8, .int .u32 a, .int .u32 b, .int .u32 f] w fun e w' => e = .returned (.tuple #[.int .u32 ((a : Int)), .int .u32 (Fl.flagsF 5 x b f), .bool true]) ∧ Below w.heap.size w w' := by
  have c0 : rkC[24]? = some (.int .u8 5) := by kernel_rfl
  have c1 : rkC[25]? = some (.int .u8 1) := by kernel_rfl
  have c2 : rkC[26]? = some (.bool true) := by kernel_rfl
  have zW := (Go.zero_of_info rk_info).1
  have HX : Hid _ := hx
  clear hx
  go_enter Try.func29, Try.ntmps29
  go_upto_region 2 with (first
    | (refine Gu.wpList_pureAt 15 17 _ _ _ ⟨#[.int .i64 8, .int .u32 a, .int .u32 b, .int .u32 f, undef, undef, undef, undef, .int .u32 0, .int .u32 0, .bool false, undef, undef, undef, undef, .agg #[.int .u8 1, .int .u8 0, .bool false], .agg #[.int .u8 2, .int .u8 0, .bool false], .agg #[.int .u8 3, .int .u8 0, .bool false], .agg #[.int .u8 4, .int .u8 0, .bool false], .agg #[.int .u8 5, .int .u8 1, .bool false], .agg #[.int .u8 5, .int .u8 2, .bool false], .agg #[.int .u8 5, .int .u8 3, .bool false], .agg #[.int .u8 3, .int .u8 0, .bool true], .agg #[.int .u8 5, .int .u8 1, .bool true], .agg #[.int .u8 6, .int .u8 0, .bool false], .agg #[.int .u8 7, .int .u8 0, .bool false], .agg #[.int .u8 8, .int .u8 0, .bool false], .agg #[.int .u8 9, .int .u8 0, .bool false], .agg #[.int .u8 10, .int .u8 0, .bool false], .agg #[.int .u8 5, .int .u8 4, .bool false], .agg #[.int .u8 5, .int .u8 5, .bool false], .agg rkC, undef, undef, undef, undef, undef, undef, undef, undef, undef, undef, undef, undef, undef, undef, undef, undef, undef, undef, undef, undef, undef, undef, undef, undef, undef, undef, undef, undef, undef, undef, undef, undef, undef, undef, undef, undef, undef, undef, undef, undef], []⟩ rfl (by kernel_rfl) ?_; simp only [List.drop_succ_cons, List.drop_zero])
    | (refine Gu.wpList_alloc_as rfl 135 rfl _ zW w.heap.size rfl ?_)
    | (refine wpList_store_row rfl 135 _ _ rfl w.heap.size rkC (by rfl) (by rfl) 135 rkZ (heap_alloc_last w _) (Go.zero_of_info rk_info).2 (by rfl) (by kernel_rfl) ?_; rw [World.setRow_alloc_new]))
  go_wp2
  go_region_held3 (fun w' => w'.cell? ⟨w.heap.size + 1, 0, none⟩ = some (.int .u8 5) ∧ w'.cell? ⟨w.heap.size + 1, 1, none⟩ = some (.int .u8 1)) (first | (simp [go_sem, k0, k1]; done) | (simp [go_sem]; done))
    (first
    | (go_at_call 85; refine (taken1 a b x _ HX.out ha hb).mono ?_; rintro e w1 ⟨rfl, rfl⟩)
    | (go_at_call 84; refine (work_any 5 x b f _ hxl hb hf).mono ?_; rintro e w1 ⟨rfl, hB⟩; have k0 := rk_row (wk_belD hB) 0; have k1 := rk_row (wk_belD hB) 1; have k2 := rk_row (wk_belD hB) 2; simp at k0 k1 k2))
  all_goals go_wp2
  all_goals go_ret3
  all_goals exact ⟨ret3 rfl rfl rfl, wk_belT (wk_belD hB)⟩
set_option maxHeartbeats 1000000 in
theorem rk8z (a b f x : Nat) (w : World) (hx : Fl.bitN 4 a b = x) (hxl : x < 4294967296) (ha : a < 4294967296) (hb : b < 4294967296) (hf : f < 4294967296) (hz : ((b : Int) == 0) = true) :
    Calls Try.prog 29 #[.int .i64 8, .int .u32 a, .int .u32 b, .int .u32 f] w fun e w' => e = .returned (.tuple #[.int .u32 ((a : Int)), .int .u32 (Fl.flagsF 5 x b f), .bool true]) ∧ Below w.heap.size w w' := by
  have c0 : rkC[24]? = some (.int .u8 5) := by kernel_rfl
  have c1 : rkC[25]? = some (.int .u8 1) := by kernel_rfl
  have c2 : rkC[26]? = some (.bool true) := by kernel_rfl
  have zW := (Go.zero_of_info rk_info).1
  have HX : Hid _ := hx
  clear hx
  go_enter Try.func29, Try.ntmps29
  go_upto_region 2 with (first
    | (refine Gu.wpList_pureAt 15 17 _ _ _ ⟨#[.int .i64 8, .int .u32 a, .int .u32 b, .int .u32 f, undef, undef, undef, undef, .int .u32 0, .int .u32 0, .bool false, undef, undef, undef, undef, .agg #[.int .u8 1, .int .u8 0, .bool false], .agg #[.int .u8 2, .int .u8 0, .bool false], .agg #[.int .u8 3, .int .u8 0, .bool false], .agg #[.int .u8 4, .int .u8 0, .bool false], .agg #[.int .u8 5, .int .u8 1, .bool false], .agg #[.int .u8 5, .int .u8 2, .bool false], .agg #[.int .u8 5, .int .u8 3, .bool false], .agg #[.int .u8 3, .int .u8 0, .bool true], .agg #[.int .u8 5, .int .u8 1, .bool true], .agg #[.int .u8 6, .int .u8 0, .bool false], .agg #[.int .u8 7, .int .u8 0, .bool false], .agg #[.int .u8 8, .int .u8 0, .bool false], .agg #[.int .u8 9, .int .u8 0, .bool false], .agg #[.int .u8 10, .int .u8 0, .bool false], .agg #[.int .u8 5, .int .u8 4, .bool false], .agg #[.int .u8 5, .int .u8 5, .bool false], .agg rkC, undef, undef, undef, undef, undef, undef, undef, undef, undef, undef, undef, undef, undef, undef, undef, undef, undef, undef, undef, undef, undef, undef, undef, undef, undef, undef, undef, undef, undef, undef, undef, undef, undef, undef, undef, undef, undef, undef, undef, undef], []⟩ rfl (by kernel_rfl) ?_; simp only [List.drop_succ_cons, List.drop_zero])
    | (refine Gu.wpList_alloc_as rfl 135 rfl _ zW w.heap.size rfl ?_)
    | (refine wpList_store_row rfl 135 _ _ rfl w.heap.size rkC (by rfl) (by rfl) 135 rkZ (heap_alloc_last w _) (Go.zero_of_info rk_info).2 (by rfl) (by kernel_rfl) ?_; rw [World.setRow_alloc_new]))
  go_wp2
  go_region_held3 (fun w' => w'.cell? ⟨w.heap.size + 1, 0, none⟩ = some (.int .u8 5) ∧ w'.cell? ⟨w.heap.size + 1, 1, none⟩ = some (.int .u8 1)) (first | (simp [go_sem, k0, k1]; done) | (simp [go_sem]; done))
    (first
    | (go_at_call 85; refine (taken1 a b x _ HX.out ha hb).mono ?_; rintro e w1 ⟨rfl, rfl⟩)
    | (go_at_call 84; refine (work_any 5 x b f _ hxl hb hf).mono ?_; rintro e w1 ⟨rfl, hB⟩; have k0 := rk_row (wk_belD hB) 0; have k1 := rk_row (wk_belD hB) 1; have k2 := rk_row (wk_belD hB) 2; simp at k0 k1 k2))
  all_goals go_wp2
  all_goals go_ret3
  all_goals exact ⟨ret3 rfl rfl rfl, wk_belT (wk_belD hB)⟩
set_option maxHeartbeats 1000000 in
theorem rk9n (a b f : Nat) (w : World) (ha : a < 4294967296) (hb : b < 4294967296) (hf : f < 4294967296) (hz : ((b : Int) == 0) = false) :
    Calls Try.prog 29 #[.int .i64 9, .int .u32 a, .int .u32 b, .int .u32 f] w fun e w' => e = .returned (.tuple #[.int .u32 (wkX 6 a b f), .int .u32 (Fl.flagsF 6 a b f), .bool true]) ∧ Below w.heap.size w w' := by
  have c0 : rkC[27]? = some (.int .u8 6) := by kernel_rfl
  have c1 : rkC[28]? = some (.int .u8 0) := by kernel_rfl
  have c2 : rkC[29]? = some (.bool false) := by kernel_rfl
  have zW := (Go.zero_of_info rk_info).1
  go_enter Try.func29, Try.ntmps29
  go_upto_region 2 with (first
    | (refine Gu.wpList_pureAt 15 17 _ _ _ ⟨#[.int .i64 9, .int .u32 a, .int .u32 b, .int .u32 f, undef, undef, undef, undef, .int .u32 0, .int .u32 0, .bool false, undef, undef, undef, undef, .agg #[.int .u8 1, .int .u8 0, .bool false], .agg #[.int .u8 2, .int .u8 0, .bool false], .agg #[.int .u8 3, .int .u8 0, .bool false], .agg #[.int .u8 4, .int .u8 0, .bool false], .agg #[.int .u8 5, .int .u8 1, .bool false], .agg #[.int .u8 5, .int .u8 2, .bool false], .agg #[.int .u8 5, .int .u8 3, .bool false], .agg #[.int .u8 3, .int .u8 0, .bool true], .agg #[.int .u8 5, .int .u8 1, .bool true], .agg #[.int .u8 6, .int .u8 0, .bool false], .agg #[.int .u8 7, .int .u8 0, .bool false], .agg #[.int .u8 8, .int .u8 0, .bool false], .agg #[.int .u8 9, .int .u8 0, .bool false], .agg #[.int .u8 10, .int .u8 0, .bool false], .agg #[.int .u8 5, .int .u8 4, .bool false], .agg #[.int .u8 5, .int .u8 5, .bool false], .agg rkC, undef, undef, undef, undef, undef, undef, undef, undef, undef, undef, undef, undef, undef, undef, undef, undef, undef, undef, undef, undef, undef, undef, undef, undef, undef, undef, undef, undef, undef, undef, undef, undef, undef, undef, undef, undef, undef, undef, undef, undef], []⟩ rfl (by kernel_rfl) ?_; simp only [List.drop_succ_cons, List.drop_zero])
    | (refine Gu.wpList_alloc_as rfl 135 rfl _ zW w.heap.size rfl ?_)
    | (refine wpList_store_row rfl 135 _ _ rfl w.heap.size rkC (by rfl) (by rfl) 135 rkZ (heap_alloc_last w _) (Go.zero_of_info rk_info).2 (by rfl) (by kernel_rfl) ?_; rw [World.setRow_alloc_new]))
  go_wp2
  go_region_held3 (fun w' => w'.cell? ⟨w.heap.size + 1, 0, none⟩ = some (.int .u8 6) ∧ w'.cell? ⟨w.heap.size + 1, 1, none⟩ = some (.int .u8 0)) (first | (simp [go_sem, k0, k1]; done) | (simp [go_sem]; done))
    (first
    | (go_at_call 85; refine (taken0 a b _).mono ?_; rintro e w1 ⟨rfl, rfl⟩)
    | (go_at_call 84; refine (work_any 6 a b f _ ha hb hf).mono ?_; rintro e w1 ⟨rfl, hB⟩; have k0 := rk_row (wk_belD hB) 0; have k1 := rk_row (wk_belD hB) 1; have k2 := rk_row (wk_belD hB) 2; simp at k0 k1 k2))
  all_goals go_wp2
  all_goals go_ret3
  all_goals exact ⟨ret3 rfl rfl rfl, wk_belT (wk_belD hB)⟩
set_option maxHeartbeats 1000000 in
theorem rk9z (a b f : Nat) (w : World) (ha : a < 4294967296) (hb : b < 4294967296) (hf : f < 4294967296) (hz : ((b : Int) == 0) = true) :
    Calls Try.prog 29 #[.int .i64 9, .int .u32 a, .int .u32 b, .int .u32 f] w fun e w' => e = .returned (.tuple #[.int .u32 (wkX 6 a b f), .int .u32 (Fl.flagsF 6 a b f), .bool true]) ∧ Below w.heap.size w w' := by
  have c0 : rkC[27]? = some (.int .u8 6) := by kernel_rfl
  have c1 : rkC[28]? = some (.int .u8 0) := by kernel_rfl
  have c2 : rkC[29]? = some (.bool false) := by kernel_rfl
  have zW := (Go.zero_of_info rk_info).1
  go_enter Try.func29, Try.ntmps29
  go_upto_region 2 with (first
    | (refine Gu.wpList_pureAt 15 17 _ _ _ ⟨#[.int .i64 9, .int .u32 a, .int .u32 b, .int .u32 f, undef, undef, undef, undef, .int .u32 0, .int .u32 0, .bool false, undef, undef, undef, undef, .agg #[.int .u8 1, .int .u8 0, .bool false], .agg #[.int .u8 2, .int .u8 0, .bool false], .agg #[.int .u8 3, .int .u8 0, .bool false], .agg #[.int .u8 4, .int .u8 0, .bool false], .agg #[.int .u8 5, .int .u8 1, .bool false], .agg #[.int .u8 5, .int .u8 2, .bool false], .agg #[.int .u8 5, .int .u8 3, .bool false], .agg #[.int .u8 3, .int .u8 0, .bool true], .agg #[.int .u8 5, .int .u8 1, .bool true], .agg #[.int .u8 6, .int .u8 0, .bool false], .agg #[.int .u8 7, .int .u8 0, .bool false], .agg #[.int .u8 8, .int .u8 0, .bool false], .agg #[.int .u8 9, .int .u8 0, .bool false], .agg #[.int .u8 10, .int .u8 0, .bool false], .agg #[.int .u8 5, .int .u8 4, .bool false], .agg #[.int .u8 5, .int .u8 5, .bool false], .agg rkC, undef, undef, undef, undef, undef, undef, undef, undef, undef, undef, undef, undef, undef, undef, undef, undef, undef, undef, undef, undef, undef, undef, undef, undef, undef, undef, undef, undef, undef, undef, undef, undef, undef, undef, undef, undef, undef, undef, undef, undef], []⟩ rfl (by kernel_rfl) ?_; simp only [List.drop_succ_cons, List.drop_zero])
    | (refine Gu.wpList_alloc_as rfl 135 rfl _ zW w.heap.size rfl ?_)
    | (refine wpList_store_row rfl 135 _ _ rfl w.heap.size rkC (by rfl) (by rfl) 135 rkZ (heap_alloc_last w _) (Go.zero_of_info rk_info).2 (by rfl) (by kernel_rfl) ?_; rw [World.setRow_alloc_new]))
  go_wp2
  go_region_held3 (fun w' => w'.cell? ⟨w.heap.size + 1, 0, none⟩ = some (.int .u8 6) ∧ w'.cell? ⟨w.heap.size + 1, 1, none⟩ = some (.int .u8 0)) (first | (simp [go_sem, k0, k1]; done) | (simp [go_sem]; done))
    (first
    | (go_at_call 85; refine (taken0 a b _).mono ?_; rintro e w1 ⟨rfl, rfl⟩)
    | (go_at_call 84; refine (work_any 6 a b f _ ha hb hf).mono ?_; rintro e w1 ⟨rfl, hB⟩; have k0 := rk_row (wk_belD hB) 0; have k1 := rk_row (wk_belD hB) 1; have k2 := rk_row (wk_belD hB) 2; simp at k0 k1 k2))
  all_goals go_wp2
  all_goals go_ret3
  all_goals exact ⟨ret3 rfl rfl rfl, wk_belT (wk_belD hB)⟩
set_option maxHeartbeats 1000000 in
theorem rk10n (a b f : Nat) (w : World) (ha : a < 4294967296) (hb : b < 4294967296) (hf : f < 4294967296) (hz : ((b : Int) == 0) = false) :
    Calls Try.prog 29 #[.int .i64 10, .int .u32 a, .int .u32 b, .int .u32 f] w fun e w' => e = .returned (.tuple #[.int .u32 (wkX 7 a b f), .int .u32 (Fl.flagsF 7 a b f), .bool true]) ∧ Below w.heap.size w w' := by
  have c0 : rkC[30]? = some (.int .u8 7) := by kernel_rfl
  have c1 : rkC[31]? = some (.int .u8 0) := by kernel_rfl
  have c2 : rkC[32]? = some (.bool false) := by kernel_rfl
  have zW := (Go.zero_of_info rk_info).1
  go_enter Try.func29, Try.ntmps29
  go_upto_region 2 with (first
    | (refine Gu.wpList_pureAt 15 17 _ _ _ ⟨#[.int .i64 10, .int .u32 a, .int .u32 b, .int .u32 f, undef, undef, undef, undef, .int .u32 0, .int .u32 0, .bool false, undef, undef, undef, undef, .agg #[.int .u8 1, .int .u8 0, .bool false], .agg #[.int .u8 2, .int .u8 0, .bool false], .agg #[.int .u8 3, .int .u8 0, .bool false], .agg #[.int .u8 4, .int .u8 0, .bool false], .agg #[.int .u8 5, .int .u8 1, .bool false], .agg #[.int .u8 5, .int .u8 2, .bool false], .agg #[.int .u8 5, .int .u8 3, .bool false], .agg #[.int .u8 3, .int .u8 0, .bool true], .agg #[.int .u8 5, .int .u8 1, .bool true], .agg #[.int .u8 6, .int .u8 0, .bool false], .agg #[.int .u8 7, .int .u8 0, .bool false], .agg #[.int .u8 8, .int .u8 0, .bool false], .agg #[.int .u8 9, .int .u8 0, .bool false], .agg #[.int .u8 10, .int .u8 0, .bool false], .agg #[.int .u8 5, .int .u8 4, .bool false], .agg #[.int .u8 5, .int .u8 5, .bool false], .agg rkC, undef, undef, undef, undef, undef, undef, undef, undef, undef, undef, undef, undef, undef, undef, undef, undef, undef, undef, undef, undef, undef, undef, undef, undef, undef, undef, undef, undef, undef, undef, undef, undef, undef, undef, undef, undef, undef, undef, undef, undef], []⟩ rfl (by kernel_rfl) ?_; simp only [List.drop_succ_cons, List.drop_zero])
    | (refine Gu.wpList_alloc_as rfl 135 rfl _ zW w.heap.size rfl ?_)
    | (refine wpList_store_row rfl 135 _ _ rfl w.heap.size rkC (by rfl) (by rfl) 135 rkZ (heap_alloc_last w _) (Go.zero_of_info rk_info).2 (by rfl) (by kernel_rfl) ?_; rw [World.setRow_alloc_new]))
  go_wp2
  go_region_held3 (fun w' => w'.cell? ⟨w.heap.size + 1, 0, none⟩ = some (.int .u8 7) ∧ w'.cell? ⟨w.heap.size + 1, 1, none⟩ = some (.int .u8 0)) (first | (simp [go_sem, k0, k1]; done) | (simp [go_sem]; done))
    (first
    | (go_at_call 85; refine (taken0 a b _).mono ?_; rintro e w1 ⟨rfl, rfl⟩)
    | (go_at_call 84; refine (work_any 7 a b f _ ha hb hf).mono ?_; rintro e w1 ⟨rfl, hB⟩; have k0 := rk_row (wk_belD hB) 0; have k1 := rk_row (wk_belD hB) 1; have k2 := rk_row (wk_belD hB) 2; simp at k0 k1 k2))
  all_goals go_wp2
  all_goals go_ret3
  all_goals exact ⟨ret3 rfl rfl rfl, wk_belT (wk_belD hB)⟩
set_option maxHeartbeats 1000000 in
theorem rk10z (a b f : Nat) (w : World) (ha : a < 4294967296) (hb : b < 4294967296) (hf : f < 4294967296) (hz : ((b : Int) == 0) = true) :
    Calls Try.prog 29 #[.int .i64 10, .int .u32 a, .int .u32 b, .int .u32 f] w fun e w' => e = .returned (.tuple #[.int .u32 (wkX 7 a b f), .int .u32 (Fl.flagsF 7 a b f), .bool true]) ∧ Below w.heap.size w w' := by
  have c0 : rkC[30]? = some (.int .u8 7) := by kernel_rfl
  have c1 : rkC[31]? = some (.int .u8 0) := by kernel_rfl
  have c2 : rkC[32]? = some (.bool false) := by kernel_rfl
  have zW := (Go.zero_of_info rk_info).1
  go_enter Try.func29, Try.ntmps29
  go_upto_region 2 with (first
    | (refine Gu.wpList_pureAt 15 17 _ _ _ ⟨#[.int .i64 10, .int .u32 a, .int .u32 b, .int .u32 f, undef, undef, undef, undef, .int .u32 0, .int .u32 0, .bool false, undef, undef, undef, undef, .agg #[.int .u8 1, .int .u8 0, .bool false], .agg #[.int .u8 2, .int .u8 0, .bool false], .agg #[.int .u8 3, .int .u8 0, .bool false], .agg #[.int .u8 4, .int .u8 0, .bool false], .agg #[.int .u8 5, .int .u8 1, .bool false], .agg #[.int .u8 5, .int .u8 2, .bool false], .agg #[.int .u8 5, .int .u8 3, .bool false], .agg #[.int .u8 3, .int .u8 0, .bool true], .agg #[.int .u8 5, .int .u8 1, .bool true], .agg #[.int .u8 6, .int .u8 0, .bool false], .agg #[.int .u8 7, .int .u8 0, .bool false], .agg #[.int .u8 8, .int .u8 0, .bool false], .agg #[.int .u8 9, .int .u8 0, .bool false], .agg #[.int .u8 10, .int .u8 0, .bool false], .agg #[.int .u8 5, .int .u8 4, .bool false], .agg #[.int .u8 5, .int .u8 5, .bool false], .agg rkC, undef, undef, undef, undef, undef, undef, undef, undef, undef, undef, undef, undef, undef, undef, undef, undef, undef, undef, undef, undef, undef, undef, undef, undef, undef, undef, undef, undef, undef, undef, undef, undef, undef, undef, undef, undef, undef, undef, undef, undef], []⟩ rfl (by kernel_rfl) ?_; simp only [List.drop_succ_cons, List.drop_zero])
    | (refine Gu.wpList_alloc_as rfl 135 rfl _ zW w.heap.size rfl ?_)
    | (refine wpList_store_row rfl 135 _ _ rfl w.heap.size rkC (by rfl) (by rfl) 135 rkZ (heap_alloc_last w _) (Go.zero_of_info rk_info).2 (by rfl) (by kernel_rfl) ?_; rw [World.setRow_alloc_new]))
  go_wp2
  go_region_held3 (fun w' => w'.cell? ⟨w.heap.size + 1, 0, none⟩ = some (.int .u8 7) ∧ w'.cell? ⟨w.heap.size + 1, 1, none⟩ = some (.int .u8 0)) (first | (simp [go_sem, k0, k1]; done) | (simp [go_sem]; done))
    (first
    | (go_at_call 85; refine (taken0 a b _).mono ?_; rintro e w1 ⟨rfl, rfl⟩)
    | (go_at_call 84; refine (work_any 7 a b f _ ha hb hf).mono ?_; rintro e w1 ⟨rfl, hB⟩; have k0 := rk_row (wk_belD hB) 0; have k1 := rk_row (wk_belD hB) 1; have k2 := rk_row (wk_belD hB) 2; simp at k0 k1 k2))
  all_goals go_wp2
  all_goals go_ret3
  all_goals exact ⟨ret3 rfl rfl rfl, wk_belT (wk_belD hB)⟩
set_option maxHeartbeats 1000000 in
theorem rk11n (a b f : Nat) (w : World) (ha : a < 4294967296) (hb : b < 4294967296) (hf : f < 4294967296) (hz : ((b : Int) == 0) = false) :
    Calls Try.prog 29 #[.int .i64 11, .int .u32 a, .int .u32 b, .int .u32 f] w fun e w' => e = .returned (.tuple #[.int .u32 (wkX 8 a b f), .int .u32 (Fl.flagsF 8 a b f), .bool true]) ∧ Below w.heap.size w w' := by
  have c0 : rkC[33]? = some (.int .u8 8) := by kernel_rfl
  have c1 : rkC[34]? = some (.int .u8 0) := by kernel_rfl
  have c2 : rkC[35]? = some (.bool false) := by kernel_rfl
  have zW := (Go.zero_of_info rk_info).1
  go_enter Try.func29, Try.ntmps29
  go_upto_region 2 with (first
    | (refine Gu.wpList_pureAt 15 17 _ _ _ ⟨#[.int .i64 11, .int .u32 a, .int .u32 b, .int .u32 f, undef, undef, undef, undef, .int .u32 0, .int .u32 0, .bool false, undef, undef, undef, undef, .agg #[.int .u8 1, .int .u8 0, .bool false], .agg #[.int .u8 2, .int .u8 0, .bool false], .agg #[.int .u8 3, .int .u8 0, .bool false], .agg #[.int .u8 4, .int .u8 0, .bool false], .agg #[.int .u8 5, .int .u8 1, .bool false], .agg #[.int .u8 5, .int .u8 2, .bool false], .agg #[.int .u8 5, .int .u8 3, .bool false], .agg #[.int .u8 3, .int .u8 0, .bool true], .agg #[.int .u8 5, .int .u8 1, .bool true], .agg #[.int .u8 6, .int .u8 0, .bool false], .agg #[.int .u8 7, .int .u8 0, .bool false], .agg #[.int .u8 8, .int .u8 0, .bool false], .agg #[.int .u8 9, .int .u8 0, .bool false], .agg #[.int .u8 10, .int .u8 0, .bool false], .agg #[.int .u8 5, .int .u8 4, .bool false], .agg #[.int .u8 5, .int .u8 5, .bool false], .agg rkC, undef, undef, undef, undef, undef, undef, undef, undef, undef, undef, undef, undef, undef, undef, undef, undef, undef, undef, undef, undef, undef, undef, undef, undef, undef, undef, undef, undef, undef, undef, undef, undef, undef, undef, undef, undef, undef, undef, undef, undef], []⟩ rfl (by kernel_rfl) ?_; simp only [List.drop_succ_cons, List.drop_zero])
    | (refine Gu.wpList_alloc_as rfl 135 rfl _ zW w.heap.size rfl ?_)
    | (refine wpList_store_row rfl 135 _ _ rfl w.heap.size rkC (by rfl) (by rfl) 135 rkZ (heap_alloc_last w _) (Go.zero_of_info rk_info).2 (by rfl) (by kernel_rfl) ?_; rw [World.setRow_alloc_new]))
  go_wp2
  go_region_held3 (fun w' => w'.cell? ⟨w.heap.size + 1, 0, none⟩ = some (.int .u8 8) ∧ w'.cell? ⟨w.heap.size + 1, 1, none⟩ = some (.int .u8 0)) (first | (simp [go_sem, k0, k1]; done) | (simp [go_sem]; done))
    (first
    | (go_at_call 85; refine (taken0 a b _).mono ?_; rintro e w1 ⟨rfl, rfl⟩)
    | (go_at_call 84; refine (work_any 8 a b f _ ha hb hf).mono ?_; rintro e w1 ⟨rfl, hB⟩; have k0 := rk_row (wk_belD hB) 0; have k1 := rk_row (wk_belD hB) 1; have k2 := rk_row (wk_belD hB) 2; simp at k0 k1 k2))
  all_goals go_wp2
  all_goals go_ret3
  all_goals exact ⟨ret3 rfl rfl rfl, wk_belT (wk_belD hB)⟩
set_option maxHeartbeats 1000000 in
theorem rk11z (a b f : Nat) (w : World) (ha : a < 4294967296) (hb : b < 4294967296) (hf : f < 4294967296) (hz : ((b : Int) == 0) = true) :
    Calls Try.prog 29 #[.int .i64 11, .int .u32 a, .int .u32 b, .int .u32 f] w fun e w' => e = .returned (.tuple #[.int .u32 (wkX 8 a b f), .int .u32 (Fl.flagsF 8 a b f), .bool true]) ∧ Below w.heap.size w w' := by
  have c0 : rkC[33]? = some (.int .u8 8) := by kernel_rfl
  have c1 : rkC[34]? = some (.int .u8 0) := by kernel_rfl
  have c2 : rkC[35]? = some (.bool false) := by kernel_rfl
  have zW := (Go.zero_of_info rk_info).1
  go_enter Try.func29, Try.ntmps29
  go_upto_region 2 with (first
    | (refine Gu.wpList_pureAt 15 17 _ _ _ ⟨#[.int .i64 11, .int .u32 a, .int .u32 b, .int .u32 f, undef, undef, undef, undef, .int .u32 0, .int .u32 0, .bool false, undef, undef, undef, undef, .agg #[.int .u8 1, .int .u8 0, .bool false], .agg #[.int .u8 2, .int .u8 0, .bool false], .agg #[.int .u8 3, .int .u8 0, .bool false], .agg #[.int .u8 4, .int .u8 0, .bool false], .agg #[.int .u8 5, .int .u8 1, .bool false], .agg #[.int .u8 5, .int .u8 2, .bool false], .agg #[.int .u8 5, .int .u8 3, .bool false], .agg #[.int .u8 3, .int .u8 0, .bool true], .agg #[.int .u8 5, .int .u8 1, .bool true], .agg #[.int .u8 6, .int .u8 0, .bool false], .agg #[.int .u8 7, .int .u8 0, .bool false], .agg #[.int .u8 8, .int .u8 0, .bool false], .agg #[.int .u8 9, .int .u8 0, .bool false], .agg #[.int .u8 10, .int .u8 0, .bool false], .agg #[.int .u8 5, .int .u8 4, .bool false], .agg #[.int .u8 5, .int .u8 5, .bool false], .agg rkC, undef, undef, undef, undef, undef, undef, undef, undef, undef, undef, undef, undef, undef, undef, undef, undef, undef, undef, undef, undef, undef, undef, undef, undef, undef, undef, undef, undef, undef, undef, undef, undef, undef, undef, undef, undef, undef, undef, undef, undef], []⟩ rfl (by kernel_rfl) ?_; simp only [List.drop_succ_cons, List.drop_zero])
    | (refine Gu.wpList_alloc_as rfl 135 rfl _ zW w.heap.size rfl ?_)
    | (refine wpList_store_row rfl 135 _ _ rfl w.heap.size rkC (by rfl) (by rfl) 135 rkZ (heap_alloc_last w _) (Go.zero_of_info rk_info).2 (by rfl) (by kernel_rfl) ?_; rw [World.setRow_alloc_new]))
  go_wp2
  go_region_held3 (fun w' => w'.cell? ⟨w.heap.size + 1, 0, none⟩ = some (.int .u8 8) ∧ w'.cell? ⟨w.heap.size + 1, 1, none⟩ = some (.int .u8 0)) (first | (simp [go_sem, k0, k1]; done) | (simp [go_sem]; done))
    (first
    | (go_at_call 85; refine (taken0 a b _).mono ?_; rintro e w1 ⟨rfl, rfl⟩)
    | (go_at_call 84; refine (work_any 8 a b f _ ha hb hf).mono ?_; rintro e w1 ⟨rfl, hB⟩; have k0 := rk_row (wk_belD hB) 0; have k1 := rk_row (wk_belD hB) 1; have k2 := rk_row (wk_belD hB) 2; simp at k0 k1 k2))
  all_goals go_wp2
  all_goals go_ret3
  all_goals exact ⟨ret3 rfl rfl rfl, wk_belT (wk_belD hB)⟩
end Go.Proofs.Ytkgbjpdoigdjnaa

namespace Go.Proofs.Ytkgbjpdoigdjnaa
open Go.RowKit
set_option maxRecDepth 100000
set_option linter.unusedVariables false
set_option linter.unusedSimpArgs false
set_option maxHeartbeats 1000000 in
theorem rk12n (a b f : Nat) (w : World) (ha : a < 4294967296) (hb : b < 4294967296) (hf : f < 4294967296) (hz : ((b : Int) == 0) = false) :
    Calls Try.prog 29 #[.int .i64 12, .int .u32 a, .int .u32 b, .int .u32 f] w fun e w' => e = .returned (.tuple #[.int .u32 (wkX 9 a b f), .int .u32 (Fl.flagsF 9 a b f), .bool true]) ∧ Below w.heap.size w w' := by
  have c0 : rkC[36]? = some (.int .u8 9) := by kernel_rfl
  have c1 : rkC[37]? = some (.int .u8 0) := by kernel_rfl
  have c2 : rkC[38]? = some (.bool false) := by kernel_rfl
  have zW := (Go.zero_of_info rk_info).1
  go_enter Try.func29, Try.ntmps29
  go_upto_region 2 with (first
    | (refine Gu.wpList_pureAt 15 17 _ _ _ ⟨#[.int .i64 12, .int .u32 a, .int .u32 b, .int .u32 f, undef, undef, undef, undef, .int .u32 0, .int .u32 0, .bool false, undef, undef, undef, undef, .agg #[.int .u8 1, .int .u8 0, .bool false], .agg #[.int .u8 2, .int .u8 0, .bool false], .agg #[.int .u8 3, .int .u8 0, .bool false], .agg #[.int .u8 4, .int .u8 0, .bool false], .agg #[.int .u8 5, .int .u8 1, .bool false], .agg #[.int .u8 5, .int .u8 2, .bool false], .agg #[.int .u8 5, .int .u8 3, .bool false], .agg #[.int .u8 3, .int .u8 0, .bool true], .agg #[.int .u8 5, .int .u8 1, .bool true], .agg #[.int .u8 6, .int .u8 0, .bool false], .agg #[.int .u8 7, .int .u8 0, .bool false], .agg #[.int .u8 8, .int .u8 0, .bool false], .agg #[.int .u8 9, .int .u8 0, .bool false], .agg #[.int .u8 10, .int .u8 0, .bool false], .agg #[.int .u8 5, .int .u8 4, .bool false], .agg #[.int .u8 5, .int .u8 5, .bool false], .agg rkC, undef, undef, undef, undef, undef, undef, undef, undef, undef, undef, undef, undef, undef, undef, undef, undef, undef, undef, undef, undef, undef, undef, undef, undef, undef, undef, undef, undef, undef, undef, undef, undef, undef, undef, undef, undef, undef, undef, undef, undef], []⟩ rfl (by kernel_rfl) ?_; simp only [List.drop_succ_cons, List.drop_zero])
    | (refine Gu.wpList_alloc_as rfl 135 rfl _ zW w.heap.size rfl ?_)
    | (refine wpList_store_row rfl 135 _ _ rfl w.heap.size rkC (by rfl) (by rfl) 135 rkZ (heap_alloc_last w _) (Go.zero_of_info rk_info).2 (by rfl) (by kernel_rfl) ?_; rw [World.setRow_alloc_new]))
  go_wp2
  go_region_held3 (fun w' => w'.cell? ⟨w.heap.size + 1, 0, none⟩ = some (.int .u8 9) ∧ w'.cell? ⟨w.heap.size + 1, 1, none⟩ = some (.int .u8 0)) (first | (simp [go_sem, k0, k1]; done) | (simp [go_sem]; done))
    (first
    | (go_at_call 85; refine (taken0 a b _).mono ?_; rintro e w1 ⟨rfl, rfl⟩)
    | (go_at_call 84; refine (work_any 9 a b f _ ha hb hf).mono ?_; rintro e w1 ⟨rfl, hB⟩; have k0 := rk_row (wk_belD hB) 0; have k1 := rk_row (wk_belD hB) 1; have k2 := rk_row (wk_belD hB) 2; simp at k0 k1 k2))
  all_goals go_wp2
  all_goals go_ret3
  all_goals exact ⟨ret3 rfl rfl rfl, wk_belT (wk_belD hB)⟩
set_option maxHeartbeats 1000000 in
theorem rk12z (a b f : Nat) (w : World) (ha : a < 4294967296) (hb : b < 4294967296) (hf : f < 4294967296) (hz : ((b : Int) == 0) = true) :
    Calls Try.prog 29 #[.int .i64 12, .int .u32 a, .int .u32 b, .int .u32 f] w fun e w' => e = .returned (.tuple #[.int .u32 (wkX 9 a b f), .int .u32 (Fl.flagsF 9 a b f), .bool true]) ∧ Below w.heap.size w w' := by
  have c0 : rkC[36]? = some (.int .u8 9) := by kernel_rfl
  have c1 : rkC[37]? = some (.int .u8 0) := by kernel_rfl
  have c2 : rkC[38]? = some (.bool false) := by kernel_rfl
  have zW := (Go.zero_of_info rk_info).1
  go_enter Try.func29, Try.ntmps29
  go_upto_region 2 with (first
    | (refine Gu.wpList_pureAt 15 17 _ _ _ ⟨#[.int .i64 12, .int .u32 a, .int .u32 b, .int .u32 f, undef, undef, undef, undef, .int .u32 0, .int .u32 0, .bool false, undef, undef, undef, undef, .agg #[.int .u8 1, .int .u8 0, .bool false], .agg #[.int .u8 2, .int .u8 0, .bool false], .agg #[.int .u8 3, .int .u8 0, .bool false], .agg #[.int .u8 4, .int .u8 0, .bool false], .agg #[.int .u8 5, .int .u8 1, .bool false], .agg #[.int .u8 5, .int .u8 2, .bool false], .agg #[.int .u8 5, .int .u8 3, .bool false], .agg #[.int .u8 3, .int .u8 0, .bool true], .agg #[.int .u8 5, .int .u8 1, .bool true], .agg #[.int .u8 6, .int .u8 0, .bool false], .agg #[.int .u8 7, .int .u8 0, .bool false], .agg #[.int .u8 8, .int .u8 0, .bool false], .agg #[.int .u8 9, .int .u8 0, .bool false], .agg #[.int .u8 10, .int .u8 0, .bool false], .agg #[.int .u8 5, .int .u8 4, .bool false], .agg #[.int .u8 5, .int .u8 5, .bool false], .agg rkC, undef, undef, undef, undef, undef, undef, undef, undef, undef, undef, undef, undef, undef, undef, undef, undef, undef, undef, undef, undef, undef, undef, undef, undef, undef, undef, undef, undef, undef, undef, undef, undef, undef, undef, undef, undef, undef, undef, undef, undef], []⟩ rfl (by kernel_rfl) ?_; simp only [List.drop_succ_cons, List.drop_zero])
    | (refine Gu.wpList_alloc_as rfl 135 rfl _ zW w.heap.size rfl ?_)
    | (refine wpList_store_row rfl 135 _ _ rfl w.heap.size rkC (by rfl) (by rfl) 135 rkZ (heap_alloc_last w _) (Go.zero_of_info rk_info).2 (by rfl) (by kernel_rfl) ?_; rw [World.setRow_alloc_new]))
  go_wp2
  go_region_held3 (fun w' => w'.cell? ⟨w.heap.size + 1, 0, none⟩ = some (.int .u8 9) ∧ w'.cell? ⟨w.heap.size + 1, 1, none⟩ = some (.int .u8 0)) (first | (simp [go_sem, k0, k1]; done) | (simp [go_sem]; done))
    (first
    | (go_at_call 85; refine (taken0 a b _).mono ?_; rintro e w1 ⟨rfl, rfl⟩)
    | (go_at_call 84; refine (work_any 9 a b f _ ha hb hf).mono ?_; rintro e w1 ⟨rfl, hB⟩; have k0 := rk_row (wk_belD hB) 0; have k1 := rk_row (wk_belD hB) 1; have k2 := rk_row (wk_belD hB) 2; simp at k0 k1 k2))
  all_goals go_wp2
  all_goals go_ret3
  all_goals exact ⟨ret3 rfl rfl rfl, wk_belT (wk_belD hB)⟩
set_option maxHeartbeats 1000000 in
theorem rk13n (a b f : Nat) (w : World) (ha : a < 4294967296) (hb : b < 4294967296) (hf : f < 4294967296) (hz : ((b : Int) == 0) = false) :
    Calls Try.prog 29 #[.int .i64 13, .int .u32 a, .int .u32 b, .int .u32 f] w fun e w' => e = .returned (.tuple #[.int .u32 (wkX 10 a b f), .int .u32 (Fl.flagsF 10 a b f), .bool true]) ∧ Below w.heap.size w w' := by
  have c0 : rkC[39]? = some (.int .u8 10) := by kernel_rfl
  have c1 : rkC[40]? = some (.int .u8 0) := by kernel_rfl
  have c2 : rkC[41]? = some (.bool false) := by kernel_rfl
  have zW := (Go.zero_of_info rk_info).1
  go_enter Try.func29, Try.ntmps29
  go_upto_region 2 with (first
    | (refine Gu.wpList_pureAt 15 17 _ _ _ ⟨#[.int .i64 13, .int .u32 a, .int .u32 b, .int .u32 f, undef, undef, undef, undef, .int .u32 0, .int .u32 0, .bool false, undef, undef, undef, undef, .agg #[.int .u8 1, .int .u8 0, .bool false], .agg #[.int .u8 2, .int .u8 0, .bool false], .agg #[.int .u8 3, .int .u8 0, .bool false], .agg #[.int .u8 4, .int .u8 0, .bool false], .agg #[.int .u8 5, .int .u8 1, .bool false], .agg #[.int .u8 5, .int .u8 2, .bool false], .agg #[.int .u8 5, .int .u8 3, .bool false], .agg #[.int .u8 3, .int .u8 0, .bool true], .agg #[.int .u8 5, .int .u8 1, .bool true], .agg #[.int .u8 6, .int .u8 0, .bool false], .agg #[.int .u8 7, .int .u8 0, .bool false], .agg #[.int .u8 8, .int .u8 0, .bool false], .agg #[.int .u8 9, .int .u8 0, .bool false], .agg #[.int .u8 10, .int .u8 0, .bool false], .agg #[.int .u8 5, .int .u8 4, .bool false], .agg #[.int .u8 5, .int .u8 5, .bool false], .agg rkC, undef, undef, undef, undef, undef, undef, undef, undef, undef, undef, undef, undef, undef, undef, undef, undef, undef, undef, undef, undef, undef, undef, undef, undef, undef, undef, undef, undef, undef, undef, undef, undef, undef, undef, undef, undef, undef, undef, undef, undef], []⟩ rfl (by kernel_rfl) ?_; simp only [List.drop_succ_cons, List.drop_zero])
    | (refine Gu.wpList_alloc_as rfl 135 rfl _ zW w.heap.size rfl ?_)
    | (refine wpList_store_row rfl 135 _ _ rfl w.heap.size rkC (by rfl) (by rfl) 135 rkZ (heap_alloc_last w _) (Go.zero_of_info rk_info).2 (by rfl) (by kernel_rfl) ?_; rw [World.setRow_alloc_new]))
  go_wp2
  go_region_held3 (fun w' => w'.cell? ⟨w.heap.size + 1, 0, none⟩ = some (.int .u8 10) ∧ w'.cell? ⟨w.heap.size + 1, 1, none⟩ = some (.int .u8 0)) (first | (simp [go_sem, k0, k1]; done) | (simp [go_sem]; done))
    (first
    | (go_at_call 85; refine (taken0 a b _).mono ?_; rintro e w1 ⟨rfl, rfl⟩)
    | (go_at_call 84; refine (work_any 10 a b f _ ha hb hf).mono ?_; rintro e w1 ⟨rfl, hB⟩; have k0 := rk_row (wk_belD hB) 0; have k1 := rk_row (wk_belD hB) 1; have k2 := rk_row (wk_belD hB) 2; simp at k0 k1 k2))
  all_goals go_wp2
  all_goals go_ret3
  all_goals exact ⟨ret3 rfl rfl rfl, wk_belT (wk_belD hB)⟩
set_option maxHeartbeats 1000000 in
theorem rk13z (a b f : Nat) (w : World) (ha : a < 4294967296) (hb : b < 4294967296) (hf : f < 4294967296) (hz : ((b : Int) == 0) = true) :
    Calls Try.prog 29 #[.int .i64 13, .int .u32 a, .int .u32 b, .int .u32 f] w fun e w' => e = .returned (.tuple #[.int .u32 (wkX 10 a b f), .int .u32 (Fl.flagsF 10 a b f), .bool true]) ∧ Below w.heap.size w w' := by
  have c0 : rkC[39]? = some (.int .u8 10) := by kernel_rfl
  have c1 : rkC[40]? = some (.int .u8 0) := by kernel_rfl
  have c2 : rkC[41]? = some (.bool false) := by kernel_rfl
  have zW := (Go.zero_of_info rk_info).1
  go_enter Try.func29, Try.ntmps29
  go_upto_region 2 with (first
    | (refine Gu.wpList_pureAt 15 17 _ _ _ ⟨#[.int .i64 13, .int .u32 a, .int .u32 b, .int .u32 f, undef, undef, undef, undef, .int .u32 0, .int .u32 0, .bool false, undef, undef, undef, undef, .agg #[.int .u8 1, .int .u8 0, .bool false], .agg #[.int .u8 2, .int .u8 0, .bool false], .agg #[.int .u8 3, .int .u8 0, .bool false], .agg #[.int .u8 4, .int .u8 0, .bool false], .agg #[.int .u8 5, .int .u8 1, .bool false], .agg #[.int .u8 5, .int .u8 2, .bool false], .agg #[.int .u8 5, .int .u8 3, .bool false], .agg #[.int .u8 3, .int .u8 0, .bool true], .agg #[.int .u8 5, .int .u8 1, .bool true], .agg #[.int .u8 6, .int .u8 0, .bool false], .agg #[.int .u8 7, .int .u8 0, .bool false], .agg #[.int .u8 8, .int .u8 0, .bool false], .agg #[.int .u8 9, .int .u8 0, .bool false], .agg #[.int .u8 10, .int .u8 0, .bool false], .agg #[.int .u8 5, .int .u8 4, .bool false], .agg #[.int .u8 5, .int .u8 5, .bool false], .agg rkC, undef, undef, undef, undef, undef, undef, undef, undef, undef, undef, undef, undef, undef, undef, undef, undef, undef, undef, undef, undef, undef, undef, undef, undef, undef, undef, undef, undef, undef, undef, undef, undef, undef, undef, undef, undef, undef, undef, undef, undef], []⟩ rfl (by kernel_rfl) ?_; simp only [List.drop_succ_cons, List.drop_zero])
    | (refine Gu.wpList_alloc_as rfl 135 rfl _ zW w.heap.size rfl ?_)
    | (refine wpList_store_row rfl 135 _ _ rfl w.heap.size rkC (by rfl) (by rfl) 135 rkZ (heap_alloc_last w _) (Go.zero_of_info rk_info).2 (by rfl) (by kernel_rfl) ?_; rw [World.setRow_alloc_new]))
  go_wp2
  go_region_held3 (fun w' => w'.cell? ⟨w.heap.size + 1, 0, none⟩ = some (.int .u8 10) ∧ w'.cell? ⟨w.heap.size + 1, 1, none⟩ = some (.int .u8 0)) (first | (simp [go_sem, k0, k1]; done) | (simp [go_sem]; done))
    (first
    | (go_at_call 85; refine (taken0 a b _).mono ?_; rintro e w1 ⟨rfl, rfl⟩)
    | (go_at_call 84; refine (work_any 10 a b f _ ha hb hf).mono ?_; rintro e w1 ⟨rfl, hB⟩; have k0 := rk_row (wk_belD hB) 0; have k1 := rk_row (wk_belD hB) 1; have k2 := rk_row (wk_belD hB) 2; simp at k0 k1 k2))
  all_goals go_wp2
  all_goals go_ret3
  all_goals exact ⟨ret3 rfl rfl rfl, wk_belT (wk_belD hB)⟩
set_option maxHeartbeats 1000000 in
theorem rk14n (a b f x : Nat) (w : World) (hx : a / b = x) (h0 : 0 < b) (hxl : x < 4294967296) (ha : a < 4294967296) (hb : b < 4294967296) (hf : f < 4294967296) (hz : ((b : Int) == 0) = false) :
    Calls Try.prog 29 #[.int .i64 14, .int .u32 a, .int .u32 b, .int .u32 f] w fun e w' => e = .returned (.tuple #[.int .u32 (wkX 5 x b f), .int .u32 (Fl.flagsF 5 x b f), .bool true]) ∧ Below w.heap.size w w' := by
  have c0 : rkC[42]? = some (.int .u8 5) := by kernel_rfl
  have c1 : rkC[43]? = some (.int .u8 4) := by kernel_rfl
  have c2 : rkC[44]? = some (.bool false) := by kernel_rfl
  have zW := (Go.zero_of_info rk_info).1
  have HX : Hid _ := hx
  clear hx
  go_enter Try.func29, Try.ntmps29
  go_upto_region 2 with (first
    | (refine Gu.wpList_pureAt 15 17 _ _ _ ⟨#[.int .i64 14, .int .u32 a, .int .u32 b, .int .u32 f, undef, undef, undef, undef, .int .u32 0, .int .u32 0, .bool false, undef, undef, undef, undef, .agg #[.int .u8 1, .int .u8 0, .bool false], .agg #[.int .u8 2, .int .u8 0, .bool false], .agg #[.int .u8 3, .int .u8 0, .bool false], .agg #[.int .u8 4, .int .u8 0, .bool false], .agg #[.int .u8 5, .int .u8 1, .bool false], .agg #[.int .u8 5, .int .u8 2, .bool false], .agg #[.int .u8 5, .int .u8 3, .bool false], .agg #[.int .u8 3, .int .u8 0, .bool true], .agg #[.int .u8 5, .int .u8 1, .bool true], .agg #[.int .u8 6, .int .u8 0, .bool false], .agg #[.int .u8 7, .int .u8 0, .bool false], .agg #[.int .u8 8, .int .u8 0, .bool false], .agg #[.int .u8 9, .int .u8 0, .bool false], .agg #[.int .u8 10, .int .u8 0, .bool false], .agg #[.int .u8 5, .int .u8 4, .bool false], .agg #[.int .u8 5, .int .u8 5, .bool false], .agg rkC, undef, undef, undef, undef, undef, undef, undef, undef, undef, undef, undef, undef, undef, undef, undef, undef, undef, undef, undef, undef, undef, undef, undef, undef, undef, undef, undef, undef, undef, undef, undef, undef, undef, undef, undef, undef, undef, undef, undef, undef], []⟩ rfl (by kernel_rfl) ?_; simp only [List.drop_succ_cons, List.drop_zero])
    | (refine Gu.wpList_alloc_as rfl 135 rfl _ zW w.heap.size rfl ?_)
    | (refine wpList_store_row rfl 135 _ _ rfl w.heap.size rkC (by rfl) (by rfl) 135 rkZ (heap_alloc_last w _) (Go.zero_of_info rk_info).2 (by rfl) (by kernel_rfl) ?_; rw [World.setRow_alloc_new]))
  go_wp2
  go_region_held3 (fun w' => w'.cell? ⟨w.heap.size + 1, 0, none⟩ = some (.int .u8 5) ∧ w'.cell? ⟨w.heap.size + 1, 1, none⟩ = some (.int .u8 4)) (first | (simp [go_sem, k0, k1]; done) | (simp [go_sem]; done))
    (first
    | (go_at_call 85; refine (taken4 a b x _ HX.out h0 ha).mono ?_; rintro e w1 ⟨rfl, rfl⟩)
    | (go_at_call 84; refine (work_any 5 x b f _ hxl hb hf).mono ?_; rintro e w1 ⟨rfl, hB⟩; have k0 := rk_row (wk_belD hB) 0; have k1 := rk_row (wk_belD hB) 1; have k2 := rk_row (wk_belD hB) 2; simp at k0 k1 k2))
  all_goals go_wp2
  all_goals go_ret3
  all_goals exact ⟨ret3 rfl rfl rfl, wk_belT (wk_belD hB)⟩
set_option maxHeartbeats 1000000 in
theorem rk15n (a b f x : Nat) (w : World) (hx : a % b = x) (h0 : 0 < b) (hxl : x < 4294967296) (ha : a < 4294967296) (hb : b < 4294967296) (hf : f < 4294967296) (hz : ((b : Int) == 0) = false) :
    Calls Try.prog 29 #[.int .i64 15, .int .u32 a, .int .u32 b, .int .u32 f] w fun e w' => e = .returned (.tuple #[.int .u32 (wkX 5 x b f), .int .u32 (Fl.flagsF 5 x b f), .bool true]) ∧ Below w.heap.size w w' := by
  have c0 : rkC[45]? = some (.int .u8 5) := by kernel_rfl
  have c1 : rkC[46]? = some (.int .u8 5) := by kernel_rfl
  have c2 : rkC[47]? = some (.bool false) := by kernel_rfl
  have zW := (Go.zero_of_info rk_info).1
  have HX : Hid _ := hx
  clear hx
  go_enter Try.func29, Try.ntmps29
  go_upto_region 2 with (first
    | (refine Gu.wpList_pureAt 15 17 _ _ _ ⟨#[.int .i64 15, .int .u32 a, .int .u32 b, .int .u32 f, undef, undef, undef, undef, .int .u32 0, .int .u32 0, .bool false, undef, undef, undef, undef, .agg #[.int .u8 1, .int .u8 0, .bool false], .agg #[.int .u8 2, .int .u8 0, .bool false], .agg #[.int .u8 3, .int .u8 0, .bool false], .agg #[.int .u8 4, .int .u8 0, .bool false], .agg #[.int .u8 5, .int .u8 1, .bool false], .agg #[.int .u8 5, .int .u8 2, .bool false], .agg #[.int .u8 5, .int .u8 3, .bool false], .agg #[.int .u8 3, .int .u8 0, .bool true], .agg #[.int .u8 5, .int .u8 1, .bool true], .agg #[.int .u8 6, .int .u8 0, .bool false], .agg #[.int .u8 7, .int .u8 0, .bool false], .agg #[.int .u8 8, .int .u8 0, .bool false], .agg #[.int .u8 9, .int .u8 0, .bool false], .agg #[.int .u8 10, .int .u8 0, .bool false], .agg #[.int .u8 5, .int .u8 4, .bool false], .agg #[.int .u8 5, .int .u8 5, .bool false], .agg rkC, undef, undef, undef, undef, undef, undef, undef, undef, undef, undef, undef, undef, undef, undef, undef, undef, undef, undef, undef, undef, undef, undef, undef, undef, undef, undef, undef, undef, undef, undef, undef, undef, undef, undef, undef, undef, undef, undef, undef, undef], []⟩ rfl (by kernel_rfl) ?_; simp only [List.drop_succ_cons, List.drop_zero])
    | (refine Gu.wpList_alloc_as rfl 135 rfl _ zW w.heap.size rfl ?_)
    | (refine wpList_store_row rfl 135 _ _ rfl w.heap.size rkC (by rfl) (by rfl) 135 rkZ (heap_alloc_last w _) (Go.zero_of_info rk_info).2 (by rfl) (by kernel_rfl) ?_; rw [World.setRow_alloc_new]))
  go_wp2
  go_region_held3 (fun w' => w'.cell? ⟨w.heap.size + 1, 0, none⟩ = some (.int .u8 5) ∧ w'.cell? ⟨w.heap.size + 1, 1, none⟩ = some (.int .u8 5)) (first | (simp [go_sem, k0, k1]; done) | (simp [go_sem]; done))
    (first
    | (go_at_call 85; refine (taken5 a b x _ HX.out h0 ha).mono ?_; rintro e w1 ⟨rfl, rfl⟩)
    | (go_at_call 84; refine (work_any 5 x b f _ hxl hb hf).mono ?_; rintro e w1 ⟨rfl, hB⟩; have k0 := rk_row (wk_belD hB) 0; have k1 := rk_row (wk_belD hB) 1; have k2 := rk_row (wk_belD hB) 2; simp at k0 k1 k2))
  all_goals go_wp2
  all_goals go_ret3
  all_goals exact ⟨ret3 rfl rfl rfl, wk_belT (wk_belD hB)⟩
end Go.Proofs.Ytkgbjpdoigdjnaa
