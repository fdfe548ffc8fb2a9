import Derived.Test.YtkgbjpdoigdjnaaJ29
namespace Go.Proofs.Ytkgbjpdoigdjnaa
open Go.RowKit
set_option maxRecDepth 100000
set_option linter.unusedVariables false
set_option linter.unusedSimpArgs false
set_option maxHeartbeats 1000000 in
theorem work0 (a b old o16 : Nat) (w : World) (ha : a < 4294967296) (hb : b < 4294967296) (ho : old < 4294967296) (h16 : old % 16 = o16) :
    Calls Try.prog 84 #[.int .i64 0, .int .u32 a, .int .u32 b, .int .u32 old] w fun e w' => e = .returned (.tuple #[.int .u32 ((a : Int)), .int .u32 ((o16 : Int))]) ∧ Below w.heap.size w w' := by
  have h15 : bits .and .u32 (old : Int) 15 = (o16 : Int) := by rw [and15 old ho, h16]
  have ho16 : o16 < 16 := by omega
  have c0 : wkC[0]? = some (.int .u8 0) := by kernel_rfl
  have c1 : wkC[1]? = some (.bool false) := by kernel_rfl
  have c2 : wkC[2]? = some (.bool false) := by kernel_rfl
  have zW := (Go.zero_of_info wk_info).1
  have H16 : Hid _ := h16
  clear h16
  go_enter Try.func84, Try.ntmps84
  go_wp2_with (first
    | (refine Gu.wpList_pureAt 14 14 _ _ _ ⟨#[.int .i64 0, .int .u32 a, .int .u32 b, .int .u32 old, undef, undef, undef, undef, .int .u32 0, .int .u32 0, undef, undef, undef, undef, .agg #[.int .u8 0, .bool false, .bool false], .agg #[.int .u8 1, .bool false, .bool false], .agg #[.int .u8 1, .bool true, .bool false], .agg #[.int .u8 2, .bool false, .bool false], .agg #[.int .u8 2, .bool true, .bool false], .agg #[.int .u8 3, .bool false, .bool false], .agg #[.int .u8 5, .bool false, .bool false], .agg #[.int .u8 6, .bool false, .bool false], .agg #[.int .u8 7, .bool false, .bool false], .agg #[.int .u8 8, .bool false, .bool false], .agg #[.int .u8 4, .bool false, .bool false], .agg #[.int .u8 1, .bool false, .bool true], .agg #[.int .u8 2, .bool false, .bool true], .agg wkC, undef, undef, undef, undef, undef, undef, undef, undef, undef, undef, undef, undef, undef, undef, undef, undef, undef, undef, undef, undef, undef, undef, undef, undef, undef, undef, undef, undef, undef, undef, undef, undef, undef, undef, undef, undef, undef, undef, undef, undef, undef, undef, undef, undef, undef, undef, undef, undef, undef, undef, undef, undef, undef, undef, undef, undef, undef, undef, undef, undef, undef, undef, undef, undef, undef, undef, undef, undef, undef, undef, undef, undef, undef, undef], []⟩ rfl (by kernel_rfl) ?_; simp only [List.drop_succ_cons, List.drop_zero])
    | (refine Gu.wpList_alloc_as rfl 194 rfl _ zW w.heap.size rfl ?_)
    | (refine wpList_store_row rfl 194 _ _ rfl w.heap.size wkC (by rfl) (by rfl) 194 wkZ (heap_alloc_last w _) (Go.zero_of_info wk_info).2 (by rfl) (by kernel_rfl) ?_; rw [World.setRow_alloc_new])
    | fail)
  go_ret2
  exact ⟨ret2 rfl rfl, wk_bel w _ _⟩
set_option maxHeartbeats 1000000 in
theorem work1 (a b old o16 : Nat) (w : World) (ha : a < 4294967296) (hb : b < 4294967296) (ho : old < 4294967296) (h16 : old % 16 = o16) :
    Calls Try.prog 84 #[.int .i64 1, .int .u32 a, .int .u32 b, .int .u32 old] w fun e w' => e = .returned (.tuple #[.int .u32 (((a : Int) + b) % 4294967296), .int .u32 (Fl.addF a b 0)]) ∧ Below w.heap.size w w' := by
  have h15 : bits .and .u32 (old : Int) 15 = (o16 : Int) := by rw [and15 old ho, h16]
  have ho16 : o16 < 16 := by omega
  have c0 : wkC[3]? = some (.int .u8 1) := by kernel_rfl
  have c1 : wkC[4]? = some (.bool false) := by kernel_rfl
  have c2 : wkC[5]? = some (.bool false) := by kernel_rfl
  have zW := (Go.zero_of_info wk_info).1
  have H16 : Hid _ := h16
  clear h16
  go_enter Try.func84, Try.ntmps84
  go_wp2_with (first
    | (refine Gu.wpList_pureAt 14 14 _ _ _ ⟨#[.int .i64 1, .int .u32 a, .int .u32 b, .int .u32 old, undef, undef, undef, undef, .int .u32 0, .int .u32 0, undef, undef, undef, undef, .agg #[.int .u8 0, .bool false, .bool false], .agg #[.int .u8 1, .bool false, .bool false], .agg #[.int .u8 1, .bool true, .bool false], .agg #[.int .u8 2, .bool false, .bool false], .agg #[.int .u8 2, .bool true, .bool false], .agg #[.int .u8 3, .bool false, .bool false], .agg #[.int .u8 5, .bool false, .bool false], .agg #[.int .u8 6, .bool false, .bool false], .agg #[.int .u8 7, .bool false, .bool false], .agg #[.int .u8 8, .bool false, .bool false], .agg #[.int .u8 4, .bool false, .bool false], .agg #[.int .u8 1, .bool false, .bool true], .agg #[.int .u8 2, .bool false, .bool true], .agg wkC, undef, undef, undef, undef, undef, undef, undef, undef, undef, undef, undef, undef, undef, undef, undef, undef, undef, undef, undef, undef, undef, undef, undef, undef, undef, undef, undef, undef, undef, undef, undef, undef, undef, undef, undef, undef, undef, undef, undef, undef, undef, undef, undef, undef, undef, undef, undef, undef, undef, undef, undef, undef, undef, undef, undef, undef, undef, undef, undef, undef, undef, undef, undef, undef, undef, undef, undef, undef, undef, undef, undef, undef, undef, undef], []⟩ rfl (by kernel_rfl) ?_; simp only [List.drop_succ_cons, List.drop_zero])
    | (refine Gu.wpList_alloc_as rfl 194 rfl _ zW w.heap.size rfl ?_)
    | (refine wpList_store_row rfl 194 _ _ rfl w.heap.size wkC (by rfl) (by rfl) 194 wkZ (heap_alloc_last w _) (Go.zero_of_info wk_info).2 (by rfl) (by kernel_rfl) ?_; rw [World.setRow_alloc_new])
    | (go_at_call 129; refine (reckoned1 a b 0 _ ha hb (by omega)).mono ?_; rintro e w1 ⟨rfl, rfl⟩))
  go_ret2
  exact ⟨ret2 rfl rfl, wk_bel w _ _⟩
set_option maxHeartbeats 1000000 in
theorem work2 (a b old o16 : Nat) (w : World) (ha : a < 4294967296) (hb : b < 4294967296) (ho : old < 4294967296) (h16 : old % 16 = o16) :
    Calls Try.prog 84 #[.int .i64 2, .int .u32 a, .int .u32 b, .int .u32 old] w fun e w' => e = .returned (.tuple #[.int .u32 (((a : Int) + b + Fl.carF old) % 4294967296), .int .u32 (Fl.addF a b (Fl.carF old))]) ∧ Below w.heap.size w w' := by
  have h15 : bits .and .u32 (old : Int) 15 = (o16 : Int) := by rw [and15 old ho, h16]
  have ho16 : o16 < 16 := by omega
  obtain ⟨c, hc⟩ : ∃ c : Nat, o16 / 4 % 2 = c := ⟨_, rfl⟩
  have hcl : c ≤ 1 := by omega
  have hc1 : bits .and .u32 ((o16 : Int) / 4) 1 = (c : Int) := by
    have := and1 (o16 / 4) (by omega)
    have e : ((o16 / 4 : Nat) : Int) = (o16 : Int) / 4 := by omega
    rw [e] at this
    rw [this]; omega
  have hcf : Fl.carF old = (c : Int) := by unfold Fl.carF; rw [h16, hc]
  have HCF : Hid _ := hcf
  have HC : Hid _ := hc
  clear hcf hc
  have c0 : wkC[6]? = some (.int .u8 1) := by kernel_rfl
  have c1 : wkC[7]? = some (.bool true) := by kernel_rfl
  have c2 : wkC[8]? = some (.bool false) := by kernel_rfl
  have zW := (Go.zero_of_info wk_info).1
  have H16 : Hid _ := h16
  clear h16
  go_enter Try.func84, Try.ntmps84
  go_wp2_with (first
    | (refine Gu.wpList_pureAt 14 14 _ _ _ ⟨#[.int .i64 2, .int .u32 a, .int .u32 b, .int .u32 old, undef, undef, undef, undef, .int .u32 0, .int .u32 0, undef, undef, undef, undef, .agg #[.int .u8 0, .bool false, .bool false], .agg #[.int .u8 1, .bool false, .bool false], .agg #[.int .u8 1, .bool true, .bool false], .agg #[.int .u8 2, .bool false, .bool false], .agg #[.int .u8 2, .bool true, .bool false], .agg #[.int .u8 3, .bool false, .bool false], .agg #[.int .u8 5, .bool false, .bool false], .agg #[.int .u8 6, .bool false, .bool false], .agg #[.int .u8 7, .bool false, .bool false], .agg #[.int .u8 8, .bool false, .bool false], .agg #[.int .u8 4, .bool false, .bool false], .agg #[.int .u8 1, .bool false, .bool true], .agg #[.int .u8 2, .bool false, .bool true], .agg wkC, undef, undef, undef, undef, undef, undef, undef, undef, undef, undef, undef, undef, undef, undef, undef, undef, undef, undef, undef, undef, undef, undef, undef, undef, undef, undef, undef, undef, undef, undef, undef, undef, undef, undef, undef, undef, undef, undef, undef, undef, undef, undef, undef, undef, undef, undef, undef, undef, undef, undef, undef, undef, undef, undef, undef, undef, undef, undef, undef, undef, undef, undef, undef, undef, undef, undef, undef, undef, undef, undef, undef, undef, undef, undef], []⟩ rfl (by kernel_rfl) ?_; simp only [List.drop_succ_cons, List.drop_zero])
    | (refine Gu.wpList_alloc_as rfl 194 rfl _ zW w.heap.size rfl ?_)
    | (refine wpList_store_row rfl 194 _ _ rfl w.heap.size wkC (by rfl) (by rfl) 194 wkZ (heap_alloc_last w _) (Go.zero_of_info wk_info).2 (by rfl) (by kernel_rfl) ?_; rw [World.setRow_alloc_new])
    | (go_at_call 129; refine (reckoned1 a b c _ ha hb hcl).mono ?_; rintro e w1 ⟨rfl, rfl⟩))
  go_ret2
  exact ⟨by rw [HCF.out]; exact ret2 rfl rfl, wk_bel w _ _⟩
set_option maxHeartbeats 1000000 in
theorem work3 (a b old o16 : Nat) (w : World) (ha : a < 4294967296) (hb : b < 4294967296) (ho : old < 4294967296) (h16 : old % 16 = o16) :
    Calls Try.prog 84 #[.int .i64 3, .int .u32 a, .int .u32 b, .int .u32 old] w fun e w' => e = .returned (.tuple #[.int .u32 (((a : Int) - b) % 4294967296), .int .u32 (Fl.subF a b 0)]) ∧ Below w.heap.size w w' := by
  have h15 : bits .and .u32 (old : Int) 15 = (o16 : Int) := by rw [and15 old ho, h16]
  have ho16 : o16 < 16 := by omega
  have c0 : wkC[9]? = some (.int .u8 2) := by kernel_rfl
  have c1 : wkC[10]? = some (.bool false) := by kernel_rfl
  have c2 : wkC[11]? = some (.bool false) := by kernel_rfl
  have zW := (Go.zero_of_info wk_info).1
  have H16 : Hid _ := h16
  clear h16
  go_enter Try.func84, Try.ntmps84
  go_wp2_with (first
    | (refine Gu.wpList_pureAt 14 14 _ _ _ ⟨#[.int .i64 3, .int .u32 a, .int .u32 b, .int .u32 old, undef, undef, undef, undef, .int .u32 0, .int .u32 0, undef, undef, undef, undef, .agg #[.int .u8 0, .bool false, .bool false], .agg #[.int .u8 1, .bool false, .bool false], .agg #[.int .u8 1, .bool true, .bool false], .agg #[.int .u8 2, .bool false, .bool false], .agg #[.int .u8 2, .bool true, .bool false], .agg #[.int .u8 3, .bool false, .bool false], .agg #[.int .u8 5, .bool false, .bool false], .agg #[.int .u8 6, .bool false, .bool false], .agg #[.int .u8 7, .bool false, .bool false], .agg #[.int .u8 8, .bool false, .bool false], .agg #[.int .u8 4, .bool false, .bool false], .agg #[.int .u8 1, .bool false, .bool true], .agg #[.int .u8 2, .bool false, .bool true], .agg wkC, undef, undef, undef, undef, undef, undef, undef, undef, undef, undef, undef, undef, undef, undef, undef, undef, undef, undef, undef, undef, undef, undef, undef, undef, undef, undef, undef, undef, undef, undef, undef, undef, undef, undef, undef, undef, undef, undef, undef, undef, undef, undef, undef, undef, undef, undef, undef, undef, undef, undef, undef, undef, undef, undef, undef, undef, undef, undef, undef, undef, undef, undef, undef, undef, undef, undef, undef, undef, undef, undef, undef, undef, undef, undef], []⟩ rfl (by kernel_rfl) ?_; simp only [List.drop_succ_cons, List.drop_zero])
    | (refine Gu.wpList_alloc_as rfl 194 rfl _ zW w.heap.size rfl ?_)
    | (refine wpList_store_row rfl 194 _ _ rfl w.heap.size wkC (by rfl) (by rfl) 194 wkZ (heap_alloc_last w _) (Go.zero_of_info wk_info).2 (by rfl) (by kernel_rfl) ?_; rw [World.setRow_alloc_new])
    | (go_at_call 129; refine (reckoned2 a b 0 _ ha hb (by omega)).mono ?_; rintro e w1 ⟨rfl, rfl⟩))
  go_ret2
  exact ⟨ret2 rfl rfl, wk_bel w _ _⟩
set_option maxHeartbeats 1000000 in
theorem work4 (a b old o16 : Nat) (w : World) (ha : a < 4294967296) (hb : b < 4294967296) (ho : old < 4294967296) (h16 : old % 16 = o16) :
    Calls Try.prog 84 #[.int .i64 4, .int .u32 a, .int .u32 b, .int .u32 old] w fun e w' => e = .returned (.tuple #[.int .u32 (((a : Int) - b - Fl.carF old) % 4294967296), .int .u32 (Fl.subF a b (Fl.carF old))]) ∧ Below w.heap.size w w' := by
  have h15 : bits .and .u32 (old : Int) 15 = (o16 : Int) := by rw [and15 old ho, h16]
  have ho16 : o16 < 16 := by omega
  obtain ⟨c, hc⟩ : ∃ c : Nat, o16 / 4 % 2 = c := ⟨_, rfl⟩
  have hcl : c ≤ 1 := by omega
  have hc1 : bits .and .u32 ((o16 : Int) / 4) 1 = (c : Int) := by
    have := and1 (o16 / 4) (by omega)
    have e : ((o16 / 4 : Nat) : Int) = (o16 : Int) / 4 := by omega
    rw [e] at this
    rw [this]; omega
  have hcf : Fl.carF old = (c : Int) := by unfold Fl.carF; rw [h16, hc]
  have HCF : Hid _ := hcf
  have HC : Hid _ := hc
  clear hcf hc
  have c0 : wkC[12]? = some (.int .u8 2) := by kernel_rfl
  have c1 : wkC[13]? = some (.bool true) := by kernel_rfl
  have c2 : wkC[14]? = some (.bool false) := by kernel_rfl
  have zW := (Go.zero_of_info wk_info).1
  have H16 : Hid _ := h16
  clear h16
  go_enter Try.func84, Try.ntmps84
  go_wp2_with (first
    | (refine Gu.wpList_pureAt 14 14 _ _ _ ⟨#[.int .i64 4, .int .u32 a, .int .u32 b, .int .u32 old, undef, undef, undef, undef, .int .u32 0, .int .u32 0, undef, undef, undef, undef, .agg #[.int .u8 0, .bool false, .bool false], .agg #[.int .u8 1, .bool false, .bool false], .agg #[.int .u8 1, .bool true, .bool false], .agg #[.int .u8 2, .bool false, .bool false], .agg #[.int .u8 2, .bool true, .bool false], .agg #[.int .u8 3, .bool false, .bool false], .agg #[.int .u8 5, .bool false, .bool false], .agg #[.int .u8 6, .bool false, .bool false], .agg #[.int .u8 7, .bool false, .bool false], .agg #[.int .u8 8, .bool false, .bool false], .agg #[.int .u8 4, .bool false, .bool false], .agg #[.int .u8 1, .bool false, .bool true], .agg #[.int .u8 2, .bool false, .bool true], .agg wkC, undef, undef, undef, undef, undef, undef, undef, undef, undef, undef, undef, undef, undef, undef, undef, undef, undef, undef, undef, undef, undef, undef, undef, undef, undef, undef, undef, undef, undef, undef, undef, undef, undef, undef, undef, undef, undef, undef, undef, undef, undef, undef, undef, undef, undef, undef, undef, undef, undef, undef, undef, undef, undef, undef, undef, undef, undef, undef, undef, undef, undef, undef, undef, undef, undef, undef, undef, undef, undef, undef, undef, undef, undef, undef], []⟩ rfl (by kernel_rfl) ?_; simp only [List.drop_succ_cons, List.drop_zero])
    | (refine Gu.wpList_alloc_as rfl 194 rfl _ zW w.heap.size rfl ?_)
    | (refine wpList_store_row rfl 194 _ _ rfl w.heap.size wkC (by rfl) (by rfl) 194 wkZ (heap_alloc_last w _) (Go.zero_of_info wk_info).2 (by rfl) (by kernel_rfl) ?_; rw [World.setRow_alloc_new])
    | (go_at_call 129; refine (reckoned2 a b c _ ha hb hcl).mono ?_; rintro e w1 ⟨rfl, rfl⟩))
  go_ret2
  exact ⟨by rw [HCF.out]; exact ret2 rfl rfl, wk_bel w _ _⟩
set_option maxHeartbeats 1000000 in
theorem work5 (a b old o16 : Nat) (w : World) (ha : a < 4294967296) (hb : b < 4294967296) (ho : old < 4294967296) (h16 : old % 16 = o16) :
    Calls Try.prog 84 #[.int .i64 5, .int .u32 a, .int .u32 b, .int .u32 old] w fun e w' => e = .returned (.tuple #[.int .u32 ((a : Int)), .int .u32 (Fl.valF a)]) ∧ Below w.heap.size w w' := by
  have h15 : bits .and .u32 (old : Int) 15 = (o16 : Int) := by rw [and15 old ho, h16]
  have ho16 : o16 < 16 := by omega
  have c0 : wkC[15]? = some (.int .u8 3) := by kernel_rfl
  have c1 : wkC[16]? = some (.bool false) := by kernel_rfl
  have c2 : wkC[17]? = some (.bool false) := by kernel_rfl
  have zW := (Go.zero_of_info wk_info).1
  have H16 : Hid _ := h16
  clear h16
  go_enter Try.func84, Try.ntmps84
  go_wp2_with (first
    | (refine Gu.wpList_pureAt 14 14 _ _ _ ⟨#[.int .i64 5, .int .u32 a, .int .u32 b, .int .u32 old, undef, undef, undef, undef, .int .u32 0, .int .u32 0, undef, undef, undef, undef, .agg #[.int .u8 0, .bool false, .bool false], .agg #[.int .u8 1, .bool false, .bool false], .agg #[.int .u8 1, .bool true, .bool false], .agg #[.int .u8 2, .bool false, .bool false], .agg #[.int .u8 2, .bool true, .bool false], .agg #[.int .u8 3, .bool false, .bool false], .agg #[.int .u8 5, .bool false, .bool false], .agg #[.int .u8 6, .bool false, .bool false], .agg #[.int .u8 7, .bool false, .bool false], .agg #[.int .u8 8, .bool false, .bool false], .agg #[.int .u8 4, .bool false, .bool false], .agg #[.int .u8 1, .bool false, .bool true], .agg #[.int .u8 2, .bool false, .bool true], .agg wkC, undef, undef, undef, undef, undef, undef, undef, undef, undef, undef, undef, undef, undef, undef, undef, undef, undef, undef, undef, undef, undef, undef, undef, undef, undef, undef, undef, undef, undef, undef, undef, undef, undef, undef, undef, undef, undef, undef, undef, undef, undef, undef, undef, undef, undef, undef, undef, undef, undef, undef, undef, undef, undef, undef, undef, undef, undef, undef, undef, undef, undef, undef, undef, undef, undef, undef, undef, undef, undef, undef, undef, undef, undef, undef], []⟩ rfl (by kernel_rfl) ?_; simp only [List.drop_succ_cons, List.drop_zero])
    | (refine Gu.wpList_alloc_as rfl 194 rfl _ zW w.heap.size rfl ?_)
    | (refine wpList_store_row rfl 194 _ _ rfl w.heap.size wkC (by rfl) (by rfl) 194 wkZ (heap_alloc_last w _) (Go.zero_of_info wk_info).2 (by rfl) (by kernel_rfl) ?_; rw [World.setRow_alloc_new])
    | (go_at_call 129; refine (reckoned3 a b 0 _ ha hb).mono ?_; rintro e w1 ⟨rfl, rfl⟩))
  go_ret2
  exact ⟨ret2 rfl rfl, wk_bel w _ _⟩
set_option maxHeartbeats 1000000 in
theorem work10 (a b old o16 : Nat) (w : World) (ha : a < 4294967296) (hb : b < 4294967296) (ho : old < 4294967296) (h16 : old % 16 = o16) :
    Calls Try.prog 84 #[.int .i64 10, .int .u32 a, .int .u32 b, .int .u32 old] w fun e w' => e = .returned (.tuple #[.int .u32 (((a * b % 4294967296 : Nat) : Int)), .int .u32 (Fl.mulF a b)]) ∧ Below w.heap.size w w' := by
  have h15 : bits .and .u32 (old : Int) 15 = (o16 : Int) := by rw [and15 old ho, h16]
  have ho16 : o16 < 16 := by omega
  have c0 : wkC[30]? = some (.int .u8 4) := by kernel_rfl
  have c1 : wkC[31]? = some (.bool false) := by kernel_rfl
  have c2 : wkC[32]? = some (.bool false) := by kernel_rfl
  have zW := (Go.zero_of_info wk_info).1
  have H16 : Hid _ := h16
  clear h16
  go_enter Try.func84, Try.ntmps84
  go_wp2_with (first
    | (refine Gu.wpList_pureAt 14 14 _ _ _ ⟨#[.int .i64 10, .int .u32 a, .int .u32 b, .int .u32 old, undef, undef, undef, undef, .int .u32 0, .int .u32 0, undef, undef, undef, undef, .agg #[.int .u8 0, .bool false, .bool false], .agg #[.int .u8 1, .bool false, .bool false], .agg #[.int .u8 1, .bool true, .bool false], .agg #[.int .u8 2, .bool false, .bool false], .agg #[.int .u8 2, .bool true, .bool false], .agg #[.int .u8 3, .bool false, .bool false], .agg #[.int .u8 5, .bool false, .bool false], .agg #[.int .u8 6, .bool false, .bool false], .agg #[.int .u8 7, .bool false, .bool false], .agg #[.int .u8 8, .bool false, .bool false], .agg #[.int .u8 4, .bool false, .bool false], .agg #[.int .u8 1, .bool false, .bool true], .agg #[.int .u8 2, .bool false, .bool true], .agg wkC, undef, undef, undef, undef, undef, undef, undef, undef, undef, undef, undef, undef, undef, undef, undef, undef, undef, undef, undef, undef, undef, undef, undef, undef, undef, undef, undef, undef, undef, undef, undef, undef, undef, undef, undef, undef, undef, undef, undef, undef, undef, undef, undef, undef, undef, undef, undef, undef, undef, undef, undef, undef, undef, undef, undef, undef, undef, undef, undef, undef, undef, undef, undef, undef, undef, undef, undef, undef, undef, undef, undef, undef, undef, undef], []⟩ rfl (by kernel_rfl) ?_; simp only [List.drop_succ_cons, List.drop_zero])
    | (refine Gu.wpList_alloc_as rfl 194 rfl _ zW w.heap.size rfl ?_)
    | (refine wpList_store_row rfl 194 _ _ rfl w.heap.size wkC (by rfl) (by rfl) 194 wkZ (heap_alloc_last w _) (Go.zero_of_info wk_info).2 (by rfl) (by kernel_rfl) ?_; rw [World.setRow_alloc_new])
    | (go_at_call 129; refine (reckoned4 a b 0 _ ha hb).mono ?_; rintro e w1 ⟨rfl, rfl⟩))
  go_ret2
  exact ⟨ret2 rfl rfl, wk_bel w _ _⟩
end Go.Proofs.Ytkgbjpdoigdjnaa

namespace Go.Proofs.Ytkgbjpdoigdjnaa
open Go.RowKit
set_option maxRecDepth 100000
set_option linter.unusedVariables false
set_option linter.unusedSimpArgs false
set_option maxHeartbeats 1000000 in
theorem work11 (a b old o16 : Nat) (w : World) (ha : a < 4294967296) (hb : b < 4294967296) (ho : old < 4294967296) (h16 : old % 16 = o16) :
    Calls Try.prog 84 #[.int .i64 11, .int .u32 a, .int .u32 b, .int .u32 old] w fun e w' => e = .returned (.tuple #[.int .u32 (((a : Int) + 1) % 4294967296), .int .u32 (Fl.incF a old)]) ∧ Below w.heap.size w w' := by
  have h15 : bits .and .u32 (old : Int) 15 = (o16 : Int) := by rw [and15 old ho, h16]
  have ho16 : o16 < 16 := by omega
  obtain ⟨F, hF⟩ : ∃ F : Nat, (F : Int) = Fl.addF a 1 (0 : Nat) := ⟨(Fl.addF a 1 (0 : Nat)).toNat, by
    have := (sum_c (Fl.valF (((a : Int) + (1 : Nat) + (0 : Nat)) % 4294967296)) (decide (4294967296 ≤ (a : Int) + (1 : Nat) + (0 : Nat))) (Fl.pastB (Fl.sgn a + Fl.sgn ((1 : Nat) : Int) + (0 : Nat))) (Fl.valF_bd _)).2.1
    have e : Fl.addF a 1 (0 : Nat) = Fl.valF (((a : Int) + (1 : Nat) + (0 : Nat)) % 4294967296) + Fl.isF (decide (4294967296 ≤ (a : Int) + (1 : Nat) + (0 : Nat))) 4 + Fl.isF (Fl.pastB (Fl.sgn a + Fl.sgn ((1 : Nat) : Int) + (0 : Nat))) 8 := rfl
    rw [e]; omega⟩
  have he : bits .or .u32 (bits .andNot .u32 (F : Int) 4) (bits .and .u32 (o16 : Int) 4) = Fl.incF a old := by
    rw [keep_inc F o16 _ _ _ (Fl.valF_bd _) hF ho16]
    unfold Fl.incF Fl.carF
    rw [h16]
    have e1 : Fl.sgn ((1 : Nat) : Int) = 1 := by decide
    rw [e1]
    have e2 : ((a : Int) + ((1 : Nat) : Int) + ((0 : Nat) : Int)) = (a : Int) + 1 := by omega
    have e3 : (Fl.sgn a + 1 + ((0 : Nat) : Int)) = Fl.sgn a + 1 := by omega
    rw [e2, e3]
  have HCl : Hid (∀ w, Calls Try.prog 129 #[.int .u8 1, .int .u32 a, .int .u32 1, .int .u32 0] w fun e w' => e = .returned (.tuple #[.int .u32 (((a : Int) + 1) % 4294967296), .int .u32 F]) ∧ w = w') := fun w => by
    have := reckoned1 a 1 0 w ha (by omega) (by omega)
    rw [← hF] at this
    have e2 : ((a : Int) + ((1 : Nat) : Int) + ((0 : Nat) : Int)) = (a : Int) + 1 := by omega
    rw [e2] at this
    exact this
  have HE : Hid _ := he
  have HF : Hid _ := hF
  clear he hF
  have c0 : wkC[33]? = some (.int .u8 1) := by kernel_rfl
  have c1 : wkC[34]? = some (.bool false) := by kernel_rfl
  have c2 : wkC[35]? = some (.bool true) := by kernel_rfl
  have zW := (Go.zero_of_info wk_info).1
  have H16 : Hid _ := h16
  clear h16
  go_enter Try.func84, Try.ntmps84
  go_wp2_with (first
    | (refine Gu.wpList_pureAt 14 14 _ _ _ ⟨#[.int .i64 11, .int .u32 a, .int .u32 b, .int .u32 old, undef, undef, undef, undef, .int .u32 0, .int .u32 0, undef, undef, undef, undef, .agg #[.int .u8 0, .bool false, .bool false], .agg #[.int .u8 1, .bool false, .bool false], .agg #[.int .u8 1, .bool true, .bool false], .agg #[.int .u8 2, .bool false, .bool false], .agg #[.int .u8 2, .bool true, .bool false], .agg #[.int .u8 3, .bool false, .bool false], .agg #[.int .u8 5, .bool false, .bool false], .agg #[.int .u8 6, .bool false, .bool false], .agg #[.int .u8 7, .bool false, .bool false], .agg #[.int .u8 8, .bool false, .bool false], .agg #[.int .u8 4, .bool false, .bool false], .agg #[.int .u8 1, .bool false, .bool true], .agg #[.int .u8 2, .bool false, .bool true], .agg wkC, undef, undef, undef, undef, undef, undef, undef, undef, undef, undef, undef, undef, undef, undef, undef, undef, undef, undef, undef, undef, undef, undef, undef, undef, undef, undef, undef, undef, undef, undef, undef, undef, undef, undef, undef, undef, undef, undef, undef, undef, undef, undef, undef, undef, undef, undef, undef, undef, undef, undef, undef, undef, undef, undef, undef, undef, undef, undef, undef, undef, undef, undef, undef, undef, undef, undef, undef, undef, undef, undef, undef, undef, undef, undef], []⟩ rfl (by kernel_rfl) ?_; simp only [List.drop_succ_cons, List.drop_zero])
    | (refine Gu.wpList_alloc_as rfl 194 rfl _ zW w.heap.size rfl ?_)
    | (refine wpList_store_row rfl 194 _ _ rfl w.heap.size wkC (by rfl) (by rfl) 194 wkZ (heap_alloc_last w _) (Go.zero_of_info wk_info).2 (by rfl) (by kernel_rfl) ?_; rw [World.setRow_alloc_new])
    | (go_at_call 129; refine (HCl.out _).mono ?_; rintro e w1 ⟨rfl, rfl⟩))
  go_ret2
  exact ⟨ret2 rfl HE.out, wk_bel w _ _⟩
set_option maxHeartbeats 1000000 in
theorem work12 (a b old o16 : Nat) (w : World) (ha : a < 4294967296) (hb : b < 4294967296) (ho : old < 4294967296) (h16 : old % 16 = o16) :
    Calls Try.prog 84 #[.int .i64 12, .int .u32 a, .int .u32 b, .int .u32 old] w fun e w' => e = .returned (.tuple #[.int .u32 (((a : Int) - 1) % 4294967296), .int .u32 (Fl.decF a old)]) ∧ Below w.heap.size w w' := by
  have h15 : bits .and .u32 (old : Int) 15 = (o16 : Int) := by rw [and15 old ho, h16]
  have ho16 : o16 < 16 := by omega
  obtain ⟨F, hF⟩ : ∃ F : Nat, (F : Int) = Fl.subF a 1 (0 : Nat) := ⟨(Fl.subF a 1 (0 : Nat)).toNat, by
    have := (sum_c (Fl.valF (((a : Int) - (1 : Nat) - (0 : Nat)) % 4294967296)) (decide ((a : Int) - (1 : Nat) - (0 : Nat) < 0)) (Fl.pastB (Fl.sgn a - Fl.sgn ((1 : Nat) : Int) - (0 : Nat))) (Fl.valF_bd _)).2.1
    have e : Fl.subF a 1 (0 : Nat) = Fl.valF (((a : Int) - (1 : Nat) - (0 : Nat)) % 4294967296) + Fl.isF (decide ((a : Int) - (1 : Nat) - (0 : Nat) < 0)) 4 + Fl.isF (Fl.pastB (Fl.sgn a - Fl.sgn ((1 : Nat) : Int) - (0 : Nat))) 8 := rfl
    rw [e]; omega⟩
  have he : bits .or .u32 (bits .andNot .u32 (F : Int) 4) (bits .and .u32 (o16 : Int) 4) = Fl.decF a old := by
    rw [keep_inc F o16 _ _ _ (Fl.valF_bd _) hF ho16]
    unfold Fl.decF Fl.carF
    rw [h16]
    have e1 : Fl.sgn ((1 : Nat) : Int) = 1 := by decide
    rw [e1]
    have e2 : ((a : Int) - ((1 : Nat) : Int) - ((0 : Nat) : Int)) = (a : Int) - 1 := by omega
    have e3 : (Fl.sgn a - 1 - ((0 : Nat) : Int)) = Fl.sgn a - 1 := by omega
    rw [e2, e3]
  have HCl : Hid (∀ w, Calls Try.prog 129 #[.int .u8 2, .int .u32 a, .int .u32 1, .int .u32 0] w fun e w' => e = .returned (.tuple #[.int .u32 (((a : Int) - 1) % 4294967296), .int .u32 F]) ∧ w = w') := fun w => by
    have := reckoned2 a 1 0 w ha (by omega) (by omega)
    rw [← hF] at this
    have e2 : ((a : Int) - ((1 : Nat) : Int) - ((0 : Nat) : Int)) = (a : Int) - 1 := by omega
    rw [e2] at this
    exact this
  have HE : Hid _ := he
  have HF : Hid _ := hF
  clear he hF
  have c0 : wkC[36]? = some (.int .u8 2) := by kernel_rfl
  have c1 : wkC[37]? = some (.bool false) := by kernel_rfl
  have c2 : wkC[38]? = some (.bool true) := by kernel_rfl
  have zW := (Go.zero_of_info wk_info).1
  have H16 : Hid _ := h16
  clear h16
  go_enter Try.func84, Try.ntmps84
  go_wp2_with (first
    | (refine Gu.wpList_pureAt 14 14 _ _ _ ⟨#[.int .i64 12, .int .u32 a, .int .u32 b, .int .u32 old, undef, undef, undef, undef, .int .u32 0, .int .u32 0, undef, undef, undef, undef, .agg #[.int .u8 0, .bool false, .bool false], .agg #[.int .u8 1, .bool false, .bool false], .agg #[.int .u8 1, .bool true, .bool false], .agg #[.int .u8 2, .bool false, .bool false], .agg #[.int .u8 2, .bool true, .bool false], .agg #[.int .u8 3, .bool false, .bool false], .agg #[.int .u8 5, .bool false, .bool false], .agg #[.int .u8 6, .bool false, .bool false], .agg #[.int .u8 7, .bool false, .bool false], .agg #[.int .u8 8, .bool false, .bool false], .agg #[.int .u8 4, .bool false, .bool false], .agg #[.int .u8 1, .bool false, .bool true], .agg #[.int .u8 2, .bool false, .bool true], .agg wkC, undef, undef, undef, undef, undef, undef, undef, undef, undef, undef, undef, undef, undef, undef, undef, undef, undef, undef, undef, undef, undef, undef, undef, undef, undef, undef, undef, undef, undef, undef, undef, undef, undef, undef, undef, undef, undef, undef, undef, undef, undef, undef, undef, undef, undef, undef, undef, undef, undef, undef, undef, undef, undef, undef, undef, undef, undef, undef, undef, undef, undef, undef, undef, undef, undef, undef, undef, undef, undef, undef, undef, undef, undef, undef], []⟩ rfl (by kernel_rfl) ?_; simp only [List.drop_succ_cons, List.drop_zero])
    | (refine Gu.wpList_alloc_as rfl 194 rfl _ zW w.heap.size rfl ?_)
    | (refine wpList_store_row rfl 194 _ _ rfl w.heap.size wkC (by rfl) (by rfl) 194 wkZ (heap_alloc_last w _) (Go.zero_of_info wk_info).2 (by rfl) (by kernel_rfl) ?_; rw [World.setRow_alloc_new])
    | (go_at_call 129; refine (HCl.out _).mono ?_; rintro e w1 ⟨rfl, rfl⟩))
  go_ret2
  exact ⟨ret2 rfl HE.out, wk_bel w _ _⟩
end Go.Proofs.Ytkgbjpdoigdjnaa

namespace Go.Proofs.Ytkgbjpdoigdjnaa
open Go.RowKit
set_option maxRecDepth 100000
set_option linter.unusedVariables false
set_option linter.unusedSimpArgs false
set_option maxHeartbeats 1000000 in
theorem work_lo (k : Int) (a b old o16 : Nat) (w : World) (ha : a < 4294967296) (hb : b < 4294967296) (ho : old < 4294967296) (h16 : old % 16 = o16) (hk : k < 0) :
    Calls Try.prog 84 #[.int .i64 k, .int .u32 a, .int .u32 b, .int .u32 old] w fun e w' => e = .returned (.tuple #[.int .u32 ((a : Int)), .int .u32 ((o16 : Int))]) ∧ Below w.heap.size w w' := by
  have h15 : bits .and .u32 (old : Int) 15 = (o16 : Int) := by rw [and15 old ho, h16]
  have ho16 : o16 < 16 := by omega
  have hd : decide (k < 0) = true := decide_eq_true hk
  have zW := (Go.zero_of_info wk_info).1
  have H16 : Hid _ := h16
  clear h16
  go_enter Try.func84, Try.ntmps84
  go_wp2_with (first
    | (refine Gu.wpList_pureAt 14 14 _ _ _ ⟨#[.int .i64 k, .int .u32 a, .int .u32 b, .int .u32 old, undef, undef, undef, undef, .int .u32 0, .int .u32 0, undef, undef, undef, undef, .agg #[.int .u8 0, .bool false, .bool false], .agg #[.int .u8 1, .bool false, .bool false], .agg #[.int .u8 1, .bool true, .bool false], .agg #[.int .u8 2, .bool false, .bool false], .agg #[.int .u8 2, .bool true, .bool false], .agg #[.int .u8 3, .bool false, .bool false], .agg #[.int .u8 5, .bool false, .bool false], .agg #[.int .u8 6, .bool false, .bool false], .agg #[.int .u8 7, .bool false, .bool false], .agg #[.int .u8 8, .bool false, .bool false], .agg #[.int .u8 4, .bool false, .bool false], .agg #[.int .u8 1, .bool false, .bool true], .agg #[.int .u8 2, .bool false, .bool true], .agg wkC, undef, undef, undef, undef, undef, undef, undef, undef, undef, undef, undef, undef, undef, undef, undef, undef, undef, undef, undef, undef, undef, undef, undef, undef, undef, undef, undef, undef, undef, undef, undef, undef, undef, undef, undef, undef, undef, undef, undef, undef, undef, undef, undef, undef, undef, undef, undef, undef, undef, undef, undef, undef, undef, undef, undef, undef, undef, undef, undef, undef, undef, undef, undef, undef, undef, undef, undef, undef, undef, undef, undef, undef, undef, undef], []⟩ rfl (by kernel_rfl) ?_; simp only [List.drop_succ_cons, List.drop_zero])
    | (refine Gu.wpList_alloc_as rfl 194 rfl _ zW w.heap.size rfl ?_)
    | (refine wpList_store_row rfl 194 _ _ rfl w.heap.size wkC (by rfl) (by rfl) 194 wkZ (heap_alloc_last w _) (Go.zero_of_info wk_info).2 (by rfl) (by kernel_rfl) ?_; rw [World.setRow_alloc_new])
    | fail)
  go_ret2
  exact ⟨rfl, wk_bel1 w _⟩
set_option maxHeartbeats 1000000 in
theorem work_hi (k : Int) (a b old o16 : Nat) (w : World) (ha : a < 4294967296) (hb : b < 4294967296) (ho : old < 4294967296) (h16 : old % 16 = o16) (hk : 12 < k) :
    Calls Try.prog 84 #[.int .i64 k, .int .u32 a, .int .u32 b, .int .u32 old] w fun e w' => e = .returned (.tuple #[.int .u32 ((a : Int)), .int .u32 ((o16 : Int))]) ∧ Below w.heap.size w w' := by
  have h15 : bits .and .u32 (old : Int) 15 = (o16 : Int) := by rw [and15 old ho, h16]
  have ho16 : o16 < 16 := by omega
  have hd : decide (k < 0) = false := decide_eq_false (by omega)
  have hd2 : decide (13 ≤ k) = true := decide_eq_true (by omega)
  have zW := (Go.zero_of_info wk_info).1
  have H16 : Hid _ := h16
  clear h16
  go_enter Try.func84, Try.ntmps84
  go_wp2_with (first
    | (refine Gu.wpList_pureAt 14 14 _ _ _ ⟨#[.int .i64 k, .int .u32 a, .int .u32 b, .int .u32 old, undef, undef, undef, undef, .int .u32 0, .int .u32 0, undef, undef, undef, undef, .agg #[.int .u8 0, .bool false, .bool false], .agg #[.int .u8 1, .bool false, .bool false], .agg #[.int .u8 1, .bool true, .bool false], .agg #[.int .u8 2, .bool false, .bool false], .agg #[.int .u8 2, .bool true, .bool false], .agg #[.int .u8 3, .bool false, .bool false], .agg #[.int .u8 5, .bool false, .bool false], .agg #[.int .u8 6, .bool false, .bool false], .agg #[.int .u8 7, .bool false, .bool false], .agg #[.int .u8 8, .bool false, .bool false], .agg #[.int .u8 4, .bool false, .bool false], .agg #[.int .u8 1, .bool false, .bool true], .agg #[.int .u8 2, .bool false, .bool true], .agg wkC, undef, undef, undef, undef, undef, undef, undef, undef, undef, undef, undef, undef, undef, undef, undef, undef, undef, undef, undef, undef, undef, undef, undef, undef, undef, undef, undef, undef, undef, undef, undef, undef, undef, undef, undef, undef, undef, undef, undef, undef, undef, undef, undef, undef, undef, undef, undef, undef, undef, undef, undef, undef, undef, undef, undef, undef, undef, undef, undef, undef, undef, undef, undef, undef, undef, undef, undef, undef, undef, undef, undef, undef, undef, undef], []⟩ rfl (by kernel_rfl) ?_; simp only [List.drop_succ_cons, List.drop_zero])
    | (refine Gu.wpList_alloc_as rfl 194 rfl _ zW w.heap.size rfl ?_)
    | (refine wpList_store_row rfl 194 _ _ rfl w.heap.size wkC (by rfl) (by rfl) 194 wkZ (heap_alloc_last w _) (Go.zero_of_info wk_info).2 (by rfl) (by kernel_rfl) ?_; rw [World.setRow_alloc_new])
    | fail)
  go_ret2
  exact ⟨rfl, wk_bel1 w _⟩
end Go.Proofs.Ytkgbjpdoigdjnaa
