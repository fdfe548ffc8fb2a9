import Derived.Test.YtcdphcbjmpgjmaaID
namespace Go.Proofs.Ytcdphcbjmpgjmaa
open Go.RowKit
set_option maxRecDepth 100000
set_option linter.unusedVariables false
set_option linter.unusedSimpArgs false
set_option maxHeartbeats 1000000 in
theorem work0 (a b old o16 : Nat) (w : World) (ha : a < 4294967296) (hb : b < 4294967296) (ho : old < 4294967296) (h16 : old % 16 = o16) :
    Calls Try.prog 63 #[.int .i64 0, .int .u32 a, .int .u32 b, .int .u32 old] w fun e w' => e = .returned (.tuple #[.int .u32 ((a : Int)), .int .u32 ((o16 : Int))]) ∧ Below w.heap.size w w' := by
  have h15 : bits .and .u32 (old : Int) 15 = (o16 : Int) := by rw [and15 old ho, h16]
  have ho16 : o16 < 16 := by omega
  have c0 : wkC[0]? = some (.int .u8 0) := by kernel_rfl
  have c1 : wkC[1]? = some (.bool false) := by kernel_rfl
  have c2 : wkC[2]? = some (.bool false) := by kernel_rfl
  have zW := (Go.zero_of_info wk_info).1
  have H16 : Hid _ := h16
  clear h16
  go_enter Try.func63, Try.ntmps63
  go_wp2_with (first
    | (refine Gu.wpList_pureAt 14 14 _ _ _ ⟨#[.int .i64 0, .int .u32 a, .int .u32 b, .int .u32 old, undef, undef, undef, undef, .int .u32 0, .int .u32 0, undef, undef, undef, undef, .agg #[.int .u8 0, .bool false, .bool false], .agg #[.int .u8 1, .bool false, .bool false], .agg #[.int .u8 1, .bool true, .bool false], .agg #[.int .u8 2, .bool false, .bool false], .agg #[.int .u8 2, .bool true, .bool false], .agg #[.int .u8 3, .bool false, .bool false], .agg #[.int .u8 5, .bool false, .bool false], .agg #[.int .u8 6, .bool false, .bool false], .agg #[.int .u8 7, .bool false, .bool false], .agg #[.int .u8 8, .bool false, .bool false], .agg #[.int .u8 4, .bool false, .bool false], .agg #[.int .u8 1, .bool false, .bool true], .agg #[.int .u8 2, .bool false, .bool true], .agg wkC, undef, undef, undef, undef, undef, undef, undef, undef, undef, undef, undef, undef, undef, undef, undef, undef, undef, undef, undef, undef, undef, undef, undef, undef, undef, undef, undef, undef, undef, undef, undef, undef, undef, undef, undef, undef, undef, undef, undef, undef, undef, undef, undef, undef, undef, undef, undef, undef, undef, undef, undef, undef, undef, undef, undef, undef, undef, undef, undef, undef, undef, undef, undef, undef, undef, undef, undef, undef, undef, undef, undef, undef, undef, undef], []⟩ rfl (by kernel_rfl) ?_; simp only [List.drop_succ_cons, List.drop_zero])
    | (refine Gu.wpList_alloc_as rfl 147 rfl _ zW w.heap.size rfl ?_)
    | (refine wpList_store_row rfl 147 _ _ rfl w.heap.size wkC (by rfl) (by rfl) 147 wkZ (heap_alloc_last w _) (Go.zero_of_info wk_info).2 (by rfl) (by kernel_rfl) ?_; rw [World.setRow_alloc_new])
    | fail)
  go_ret2
  exact ⟨ret2 rfl rfl, wk_bel w _ _⟩
set_option maxHeartbeats 1000000 in
theorem work1 (a b old o16 : Nat) (w : World) (ha : a < 4294967296) (hb : b < 4294967296) (ho : old < 4294967296) (h16 : old % 16 = o16) :
    Calls Try.prog 63 #[.int .i64 1, .int .u32 a, .int .u32 b, .int .u32 old] w fun e w' => e = .returned (.tuple #[.int .u32 (((a : Int) + b) % 4294967296), .int .u32 (Fl.addF a b 0)]) ∧ Below w.heap.size w w' := by
  have h15 : bits .and .u32 (old : Int) 15 = (o16 : Int) := by rw [and15 old ho, h16]
  have ho16 : o16 < 16 := by omega
  have c0 : wkC[3]? = some (.int .u8 1) := by kernel_rfl
  have c1 : wkC[4]? = some (.bool false) := by kernel_rfl
  have c2 : wkC[5]? = some (.bool false) := by kernel_rfl
  have zW := (Go.zero_of_info wk_info).1
  have H16 : Hid _ := h16
  clear h16
  go_enter Try.func63, Try.ntmps63
  go_wp2_with (first
    | (refine Gu.wpList_pureAt 14 14 _ _ _ ⟨#[.int .i64 1, .int .u32 a, .int .u32 b, .int .u32 old, undef, undef, undef, undef, .int .u32 0, .int .u32 0, undef, undef, undef, undef, .agg #[.int .u8 0, .bool false, .bool false], .agg #[.int .u8 1, .bool false, .bool false], .agg #[.int .u8 1, .bool true, .bool false], .agg #[.int .u8 2, .bool false, .bool false], .agg #[.int .u8 2, .bool true, .bool false], .agg #[.int .u8 3, .bool false, .bool false], .agg #[.int .u8 5, .bool false, .bool false], .agg #[.int .u8 6, .bool false, .bool false], .agg #[.int .u8 7, .bool false, .bool false], .agg #[.int .u8 8, .bool false, .bool false], .agg #[.int .u8 4, .bool false, .bool false], .agg #[.int .u8 1, .bool false, .bool true], .agg #[.int .u8 2, .bool false, .bool true], .agg wkC, undef, undef, undef, undef, undef, undef, undef, undef, undef, undef, undef, undef, undef, undef, undef, undef, undef, undef, undef, undef, undef, undef, undef, undef, undef, undef, undef, undef, undef, undef, undef, undef, undef, undef, undef, undef, undef, undef, undef, undef, undef, undef, undef, undef, undef, undef, undef, undef, undef, undef, undef, undef, undef, undef, undef, undef, undef, undef, undef, undef, undef, undef, undef, undef, undef, undef, undef, undef, undef, undef, undef, undef, undef, undef], []⟩ rfl (by kernel_rfl) ?_; simp only [List.drop_succ_cons, List.drop_zero])
    | (refine Gu.wpList_alloc_as rfl 147 rfl _ zW w.heap.size rfl ?_)
    | (refine wpList_store_row rfl 147 _ _ rfl w.heap.size wkC (by rfl) (by rfl) 147 wkZ (heap_alloc_last w _) (Go.zero_of_info wk_info).2 (by rfl) (by kernel_rfl) ?_; rw [World.setRow_alloc_new])
    | (go_at_call 95; refine (reckoned1 a b 0 _ ha hb (by omega)).mono ?_; rintro e w1 ⟨rfl, rfl⟩))
  go_ret2
  exact ⟨ret2 rfl rfl, wk_bel w _ _⟩
set_option maxHeartbeats 1000000 in
theorem work2 (a b old o16 : Nat) (w : World) (ha : a < 4294967296) (hb : b < 4294967296) (ho : old < 4294967296) (h16 : old % 16 = o16) :
    Calls Try.prog 63 #[.int .i64 2, .int .u32 a, .int .u32 b, .int .u32 old] w fun e w' => e = .returned (.tuple #[.int .u32 (((a : Int) + b + Fl.carF old) % 4294967296), .int .u32 (Fl.addF a b (Fl.carF old))]) ∧ Below w.heap.size w w' := by
  have h15 : bits .and .u32 (old : Int) 15 = (o16 : Int) := by rw [and15 old ho, h16]
  have ho16 : o16 < 16 := by omega
  obtain ⟨c, hc⟩ : ∃ c : Nat, o16 / 4 % 2 = c := ⟨_, rfl⟩
  have hcl : c ≤ 1 := by omega
  have hc1 : bits .and .u32 ((o16 : Int) / 4) 1 = (c : Int) := by
    have := and1 (o16 / 4) (by omega)
    have e : ((o16 / 4 : Nat) : Int) = (o16 : Int) / 4 := by omega
    rw [e] at this
    rw [this]; omega
  have hcf : Fl.carF old = (c : Int) := by unfold Fl.carF; rw [h16, hc]
  have HCF : Hid _ := hcf
  have HC : Hid _ := hc
  clear hcf hc
  have c0 : wkC[6]? = some (.int .u8 1) := by kernel_rfl
  have c1 : wkC[7]? = some (.bool true) := by kernel_rfl
  have c2 : wkC[8]? = some (.bool false) := by kernel_rfl
  have zW := (Go.zero_of_info wk_info).1
  have H16 : Hid _ := h16
  clear h16
  go_enter Try.func63, Try.ntmps63
  go_wp2_with (first
    | (refine Gu.wpList_pureAt 14 14 _ _ _ ⟨#[.int .i64 2, .int .u32 a, .int .u32 b, .int .u32 old, undef, undef, undef, undef, .int .u32 0, .int .u32 0, undef, undef, undef, undef, .agg #[.int .u8 0, .bool false, .bool false], .agg #[.int .u8 1, .bool false, .bool false], .agg #[.int .u8 1, .bool true, .bool false], .agg #[.int .u8 2, .bool false, .bool false], .agg #[.int .u8 2, .bool true, .bool false], .agg #[.int .u8 3, .bool false, .bool false], .agg #[.int .u8 5, .bool false, .bool false], .agg #[.int .u8 6, .bool false, .bool false], .agg #[.int .u8 7, .bool false, .bool false], .agg #[.int .u8 8, .bool false, .bool false], .agg #[.int .u8 4, .bool false, .bool false], .agg #[.int .u8 1, .bool false, .bool true], .agg #[.int .u8 2, .bool false, .bool true], .agg wkC, undef, undef, undef, undef, undef, undef, undef, undef, undef, undef, undef, undef, undef, undef, undef, undef, undef, undef, undef, undef, undef, undef, undef, undef, undef, undef, undef, undef, undef, undef, undef, undef, undef, undef, undef, undef, undef, undef, undef, undef, undef, undef, undef, undef, undef, undef, undef, undef, undef, undef, undef, undef, undef, undef, undef, undef, undef, undef, undef, undef, undef, undef, undef, undef, undef, undef, undef, undef, undef, undef, undef, undef, undef, undef], []⟩ rfl (by kernel_rfl) ?_; simp only [List.drop_succ_cons, List.drop_zero])
    | (refine Gu.wpList_alloc_as rfl 147 rfl _ zW w.heap.size rfl ?_)
    | (refine wpList_store_row rfl 147 _ _ rfl w.heap.size wkC (by rfl) (by rfl) 147 wkZ (heap_alloc_last w _) (Go.zero_of_info wk_info).2 (by rfl) (by kernel_rfl) ?_; rw [World.setRow_alloc_new])
    | (go_at_call 95; refine (reckoned1 a b c _ ha hb hcl).mono ?_; rintro e w1 ⟨rfl, rfl⟩))
  go_ret2
  exact ⟨by rw [HCF.out]; exact ret2 rfl rfl, wk_bel w _ _⟩
set_option maxHeartbeats 1000000 in
theorem work3 (a b old o16 : Nat) (w : World) (ha : a < 4294967296) (hb : b < 4294967296) (ho : old < 4294967296) (h16 : old % 16 = o16) :
    Calls Try.prog 63 #[.int .i64 3, .int .u32 a, .int .u32 b, .int .u32 old] w fun e w' => e = .returned (.tuple #[.int .u32 (((a : Int) - b) % 4294967296), .int .u32 (Fl.subF a b 0)]) ∧ Below w.heap.size w w' := by
  have h15 : bits .and .u32 (old : Int) 15 = (o16 : Int) := by rw [and15 old ho, h16]
  have ho16 : o16 < 16 := by omega
  have c0 : wkC[9]? = some (.int .u8 2) := by kernel_rfl
  have c1 : wkC[10]? = some (.bool false) := by kernel_rfl
  have c2 : wkC[11]? = some (.bool false) := by kernel_rfl
  have zW := (Go.zero_of_info wk_info).1
  have H16 : Hid _ := h16
  clear h16
  go_enter Try.func63, Try.ntmps63
  go_wp2_with (first
    | (refine Gu.wpList_pureAt 14 14 _ _ _ ⟨#[.int .i64 3, .int .u32 a, .int .u32 b, .int .u32 old, undef, undef, undef, undef, .int .u32 0, .int .u32 0, undef, undef, undef, undef, .agg #[.int .u8 0, .bool false, .bool false], .agg #[.int .u8 1, .bool false, .bool false], .agg #[.int .u8 1, .bool true, .bool false], .agg #[.int .u8 2, .bool false, .bool false], .agg #[.int .u8 2, .bool true, .bool false], .agg #[.int .u8 3, .bool false, .bool false], .agg #[.int .u8 5, .bool false, .bool false], .agg #[.int .u8 6, .bool false, .bool false], .agg #[.int .u8 7, .bool false, .bool false], .agg #[.int .u8 8, .bool false, .bool false], .agg #[.int .u8 4, .bool false, .bool false], .agg #[.int .u8 1, .bool false, .bool true], .agg #[.int .u8 2, .bool false, .bool true], .agg wkC, undef, undef, undef, undef, undef, undef, undef, undef, undef, undef, undef, undef, undef, undef, undef, undef, undef, undef, undef, undef, undef, undef, undef, undef, undef, undef, undef, undef, undef, undef, undef, undef, undef, undef, undef, undef, undef, undef, undef, undef, undef, undef, undef, undef, undef, undef, undef, undef, undef, undef, undef, undef, undef, undef, undef, undef, undef, undef, undef, undef, undef, undef, undef, undef, undef, undef, undef, undef, undef, undef, undef, undef, undef, undef], []⟩ rfl (by kernel_rfl) ?_; simp only [List.drop_succ_cons, List.drop_zero])
    | (refine Gu.wpList_alloc_as rfl 147 rfl _ zW w.heap.size rfl ?_)
    | (refine wpList_store_row rfl 147 _ _ rfl w.heap.size wkC (by rfl) (by rfl) 147 wkZ (heap_alloc_last w _) (Go.zero_of_info wk_info).2 (by rfl) (by kernel_rfl) ?_; rw [World.setRow_alloc_new])
    | (go_at_call 95; refine (reckoned2 a b 0 _ ha hb (by omega)).mono ?_; rintro e w1 ⟨rfl, rfl⟩))
  go_ret2
  exact ⟨ret2 rfl rfl, wk_bel w _ _⟩
set_option maxHeartbeats 1000000 in
theorem work4 (a b old o16 : Nat) (w : World) (ha : a < 4294967296) (hb : b < 4294967296) (ho : old < 4294967296) (h16 : old % 16 = o16) :
    Calls Try.prog 63 #[.int .i64 4, .int .u32 a, .int .u32 b, .int .u32 old] w fun e w' => e = .returned (.tuple #[.int .u32 (((a : Int) - b - Fl.carF old) % 4294967296), .int .u32 (Fl.subF a b (Fl.carF old))]) ∧ Below w.heap.size w w' := by
  have h15 : bits .and .u32 (old : Int) 15 = (o16 : Int) := by rw [and15 old ho, h16]
  have ho16 : o16 < 16 := by omega
  obtain ⟨c, hc⟩ : ∃ c : Nat, o16 / 4 % 2 = c := ⟨_, rfl⟩
  have hcl : c ≤ 1 := by omega
  have hc1 : bits .and .u32 ((o16 : Int) / 4) 1 = (c : Int) := by
    have := and1 (o16 / 4) (by omega)
    have e : ((o16 / 4 : Nat) : Int) = (o16 : Int) / 4 := by omega
    rw [e] at this
    rw [this]; omega
  have hcf : Fl.carF old = (c : Int) := by unfold Fl.carF; rw [h16, hc]
  have HCF : Hid _ := hcf
  have HC : Hid _ := hc
  clear hcf hc
  have c0 : wkC[12]? = some (.int .u8 2) := by kernel_rfl
  have c1 : wkC[13]? = some (.bool true) := by kernel_rfl
  have c2 : wkC[14]? = some (.bool false) := by kernel_rfl
  have zW := (Go.zero_of_info wk_info).1
  have H16 : Hid _ := h16
  clear h16
  go_enter Try.func63, Try.ntmps63
  go_wp2_with (first
    | (refine Gu.wpList_pureAt 14 14 _ _ _ ⟨#[.int .i64 4, .int .u32 a, .int .u32 b, .int .u32 old, undef, undef, undef, undef, .int .u32 0, .int .u32 0, undef, undef, undef, undef, .agg #[.int .u8 0, .bool false, .bool false], .agg #[.int .u8 1, .bool false, .bool false], .agg #[.int .u8 1, .bool true, .bool false], .agg #[.int .u8 2, .bool false, .bool false], .agg #[.int .u8 2, .bool true, .bool false], .agg #[.int .u8 3, .bool false, .bool false], .agg #[.int .u8 5, .bool false, .bool false], .agg #[.int .u8 6, .bool false, .bool false], .agg #[.int .u8 7, .bool false, .bool false], .agg #[.int .u8 8, .bool false, .bool false], .agg #[.int .u8 4, .bool false, .bool false], .agg #[.int .u8 1, .bool false, .bool true], .agg #[.int .u8 2, .bool false, .bool true], .agg wkC, undef, undef, undef, undef, undef, undef, undef, undef, undef, undef, undef, undef, undef, undef, undef, undef, undef, undef, undef, undef, undef, undef, undef, undef, undef, undef, undef, undef, undef, undef, undef, undef, undef, undef, undef, undef, undef, undef, undef, undef, undef, undef, undef, undef, undef, undef, undef, undef, undef, undef, undef, undef, undef, undef, undef, undef, undef, undef, undef, undef, undef, undef, undef, undef, undef, undef, undef, undef, undef, undef, undef, undef, undef, undef], []⟩ rfl (by kernel_rfl) ?_; simp only [List.drop_succ_cons, List.drop_zero])
    | (refine Gu.wpList_alloc_as rfl 147 rfl _ zW w.heap.size rfl ?_)
    | (refine wpList_store_row rfl 147 _ _ rfl w.heap.size wkC (by rfl) (by rfl) 147 wkZ (heap_alloc_last w _) (Go.zero_of_info wk_info).2 (by rfl) (by kernel_rfl) ?_; rw [World.setRow_alloc_new])
    | (go_at_call 95; refine (reckoned2 a b c _ ha hb hcl).mono ?_; rintro e w1 ⟨rfl, rfl⟩))
  go_ret2
  exact ⟨by rw [HCF.out]; exact ret2 rfl rfl, wk_bel w _ _⟩
set_option maxHeartbeats 1000000 in
theorem work5 (a b old o16 : Nat) (w : World) (ha : a < 4294967296) (hb : b < 4294967296) (ho : old < 4294967296) (h16 : old % 16 = o16) :
    Calls Try.prog 63 #[.int .i64 5, .int .u32 a, .int .u32 b, .int .u32 old] w fun e w' => e = .returned (.tuple #[.int .u32 ((a : Int)), .int .u32 (Fl.valF a)]) ∧ Below w.heap.size w w' := by
  have h15 : bits .and .u32 (old : Int) 15 = (o16 : Int) := by rw [and15 old ho, h16]
  have ho16 : o16 < 16 := by omega
  have c0 : wkC[15]? = some (.int .u8 3) := by kernel_rfl
  have c1 : wkC[16]? = some (.bool false) := by kernel_rfl
  have c2 : wkC[17]? = some (.bool false) := by kernel_rfl
  have zW := (Go.zero_of_info wk_info).1
  have H16 : Hid _ := h16
  clear h16
  go_enter Try.func63, Try.ntmps63
  go_wp2_with (first
    | (refine Gu.wpList_pureAt 14 14 _ _ _ ⟨#[.int .i64 5, .int .u32 a, .int .u32 b, .int .u32 old, undef, undef, undef, undef, .int .u32 0, .int .u32 0, undef, undef, undef, undef, .agg #[.int .u8 0, .bool false, .bool false], .agg #[.int .u8 1, .bool false, .bool false], .agg #[.int .u8 1, .bool true, .bool false], .agg #[.int .u8 2, .bool false, .bool false], .agg #[.int .u8 2, .bool true, .bool false], .agg #[.int .u8 3, .bool false, .bool false], .agg #[.int .u8 5, .bool false, .bool false], .agg #[.int .u8 6, .bool false, .bool false], .agg #[.int .u8 7, .bool false, .bool false], .agg #[.int .u8 8, .bool false, .bool false], .agg #[.int .u8 4, .bool false, .bool false], .agg #[.int .u8 1, .bool false, .bool true], .agg #[.int .u8 2, .bool false, .bool true], .agg wkC, undef, undef, undef, undef, undef, undef, undef, undef, undef, undef, undef, undef, undef, undef, undef, undef, undef, undef, undef, undef, undef, undef, undef, undef, undef, undef, undef, undef, undef, undef, undef, undef, undef, undef, undef, undef, undef, undef, undef, undef, undef, undef, undef, undef, undef, undef, undef, undef, undef, undef, undef, undef, undef, undef, undef, undef, undef, undef, undef, undef, undef, undef, undef, undef, undef, undef, undef, undef, undef, undef, undef, undef, undef, undef], []⟩ rfl (by kernel_rfl) ?_; simp only [List.drop_succ_cons, List.drop_zero])
    | (refine Gu.wpList_alloc_as rfl 147 rfl _ zW w.heap.size rfl ?_)
    | (refine wpList_store_row rfl 147 _ _ rfl w.heap.size wkC (by rfl) (by rfl) 147 wkZ (heap_alloc_last w _) (Go.zero_of_info wk_info).2 (by rfl) (by kernel_rfl) ?_; rw [World.setRow_alloc_new])
    | (go_at_call 95; refine (reckoned3 a b 0 _ ha hb).mono ?_; rintro e w1 ⟨rfl, rfl⟩))
  go_ret2
  exact ⟨ret2 rfl rfl, wk_bel w _ _⟩
set_option maxHeartbeats 1000000 in
theorem work10 (a b old o16 : Nat) (w : World) (ha : a < 4294967296) (hb : b < 4294967296) (ho : old < 4294967296) (h16 : old % 16 = o16) :
    Calls Try.prog 63 #[.int .i64 10, .int .u32 a, .int .u32 b, .int .u32 old] w fun e w' => e = .returned (.tuple #[.int .u32 (((a * b % 4294967296 : Nat) : Int)), .int .u32 (Fl.mulF a b)]) ∧ Below w.heap.size w w' := by
  have h15 : bits .and .u32 (old : Int) 15 = (o16 : Int) := by rw [and15 old ho, h16]
  have ho16 : o16 < 16 := by omega
  have c0 : wkC[30]? = some (.int .u8 4) := by kernel_rfl
  have c1 : wkC[31]? = some (.bool false) := by kernel_rfl
  have c2 : wkC[32]? = some (.bool false) := by kernel_rfl
  have zW := (Go.zero_of_info wk_info).1
  have H16 : Hid _ := h16
  clear h16
  go_enter Try.func63, Try.ntmps63
  go_wp2_with (first
    | (refine Gu.wpList_pureAt 14 14 _ _ _ ⟨#[.int .i64 10, .int .u32 a, .int .u32 b, .int .u32 old, undef, undef, undef, undef, .int .u32 0, .int .u32 0, undef, undef, undef, undef, .agg #[.int .u8 0, .bool false, .bool false], .agg #[.int .u8 1, .bool false, .bool false], .agg #[.int .u8 1, .bool true, .bool false], .agg #[.int .u8 2, .bool false, .bool false], .agg #[.int .u8 2, .bool true, .bool false], .agg #[.int .u8 3, .bool false, .bool false], .agg #[.int .u8 5, .bool false, .bool false], .agg #[.int .u8 6, .bool false, .bool false], .agg #[.int .u8 7, .bool false, .bool false], .agg #[.int .u8 8, .bool false, .bool false], .agg #[.int .u8 4, .bool false, .bool false], .agg #[.int .u8 1, .bool false, .bool true], .agg #[.int .u8 2, .bool false, .bool true], .agg wkC, undef, undef, undef, undef, undef, undef, undef, undef, undef, undef, undef, undef, undef, undef, undef, undef, undef, undef, undef, undef, undef, undef, undef, undef, undef, undef, undef, undef, undef, undef, undef, undef, undef, undef, undef, undef, undef, undef, undef, undef, undef, undef, undef, undef, undef, undef, undef, undef, undef, undef, undef, undef, undef, undef, undef, undef, undef, undef, undef, undef, undef, undef, undef, undef, undef, undef, undef, undef, undef, undef, undef, undef, undef, undef], []⟩ rfl (by kernel_rfl) ?_; simp only [List.drop_succ_cons, List.drop_zero])
    | (refine Gu.wpList_alloc_as rfl 147 rfl _ zW w.heap.size rfl ?_)
    | (refine wpList_store_row rfl 147 _ _ rfl w.heap.size wkC (by rfl) (by rfl) 147 wkZ (heap_alloc_last w _) (Go.zero_of_info wk_info).2 (by rfl) (by kernel_rfl) ?_; rw [World.setRow_alloc_new])
    | (go_at_call 95; refine (reckoned4 a b 0 _ ha hb).mono ?_; rintro e w1 ⟨rfl, rfl⟩))
  go_ret2
  exact ⟨ret2 rfl rfl, wk_bel w _ _⟩
end Go.Proofs.Ytcdphcbjmpgjmaa
