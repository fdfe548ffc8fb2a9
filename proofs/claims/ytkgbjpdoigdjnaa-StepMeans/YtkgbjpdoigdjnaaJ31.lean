import Derived.Test.YtkgbjpdoigdjnaaJ29
namespace Go.Proofs.Ytkgbjpdoigdjnaa
open Go.RowKit
set_option maxRecDepth 100000
set_option linter.unusedVariables false
set_option linter.unusedSimpArgs false
set_option maxHeartbeats 1000000 in
theorem work6z (a b old o16 : Nat) (w : World) (ha : a < 4294967296) (hb : b < 4294967296) (ho : old < 4294967296) (h16 : old % 16 = o16) (hn : b % 32 = 0) :
    Calls Try.prog 84 #[.int .i64 6, .int .u32 a, .int .u32 b, .int .u32 old] w fun e w' => e = .returned (.tuple #[.int .u32 ((a : Int)), .int .u32 ((o16 : Int))]) ∧ Below w.heap.size w w' := by
  have h15 : bits .and .u32 (old : Int) 15 = (o16 : Int) := by rw [and15 old ho, h16]
  have ho16 : o16 < 16 := by omega
  have h31 : bits .and .u32 (b : Int) 31 = 0 := by rw [and31 b hb, hn]; rfl
  have HN : Hid _ := hn
  clear hn
  have c0 : wkC[18]? = some (.int .u8 5) := by kernel_rfl
  have c1 : wkC[19]? = some (.bool false) := by kernel_rfl
  have c2 : wkC[20]? = some (.bool false) := by kernel_rfl
  have zW := (Go.zero_of_info wk_info).1
  have H16 : Hid _ := h16
  clear h16
  go_enter Try.func84, Try.ntmps84
  go_wp2_with (first
    | (refine Gu.wpList_pureAt 14 14 _ _ _ ⟨#[.int .i64 6, .int .u32 a, .int .u32 b, .int .u32 old, undef, undef, undef, undef, .int .u32 0, .int .u32 0, undef, undef, undef, undef, .agg #[.int .u8 0, .bool false, .bool false], .agg #[.int .u8 1, .bool false, .bool false], .agg #[.int .u8 1, .bool true, .bool false], .agg #[.int .u8 2, .bool false, .bool false], .agg #[.int .u8 2, .bool true, .bool false], .agg #[.int .u8 3, .bool false, .bool false], .agg #[.int .u8 5, .bool false, .bool false], .agg #[.int .u8 6, .bool false, .bool false], .agg #[.int .u8 7, .bool false, .bool false], .agg #[.int .u8 8, .bool false, .bool false], .agg #[.int .u8 4, .bool false, .bool false], .agg #[.int .u8 1, .bool false, .bool true], .agg #[.int .u8 2, .bool false, .bool true], .agg wkC, undef, undef, undef, undef, undef, undef, undef, undef, undef, undef, undef, undef, undef, undef, undef, undef, undef, undef, undef, undef, undef, undef, undef, undef, undef, undef, undef, undef, undef, undef, undef, undef, undef, undef, undef, undef, undef, undef, undef, undef, undef, undef, undef, undef, undef, undef, undef, undef, undef, undef, undef, undef, undef, undef, undef, undef, undef, undef, undef, undef, undef, undef, undef, undef, undef, undef, undef, undef, undef, undef, undef, undef, undef, undef], []⟩ rfl (by kernel_rfl) ?_; simp only [List.drop_succ_cons, List.drop_zero])
    | (refine Gu.wpList_alloc_as rfl 194 rfl _ zW w.heap.size rfl ?_)
    | (refine wpList_store_row rfl 194 _ _ rfl w.heap.size wkC (by rfl) (by rfl) 194 wkZ (heap_alloc_last w _) (Go.zero_of_info wk_info).2 (by rfl) (by kernel_rfl) ?_; rw [World.setRow_alloc_new])
    | (go_at_call 128; refine (moved_none 5 a o16 _).mono ?_; rintro e w1 ⟨rfl, rfl⟩))
  go_ret2
  exact ⟨ret2 rfl rfl, wk_bel w _ _⟩
set_option maxHeartbeats 1000000 in
theorem work6n (a b old o16 : Nat) (w : World) (ha : a < 4294967296) (hb : b < 4294967296) (ho : old < 4294967296) (h16 : old % 16 = o16) (n : Nat) (hn : b % 32 = n) (h0 : 0 < n) :
    Calls Try.prog 84 #[.int .i64 6, .int .u32 a, .int .u32 b, .int .u32 old] w fun e w' => e = .returned (.tuple #[.int .u32 (((a * 2 ^ n % 4294967296 : Nat) : Int)), .int .u32 (Fl.shlF a n)]) ∧ Below w.heap.size w w' := by
  have h15 : bits .and .u32 (old : Int) 15 = (o16 : Int) := by rw [and15 old ho, h16]
  have ho16 : o16 < 16 := by omega
  have h31 : bits .and .u32 (b : Int) 31 = (n : Int) := by rw [and31 b hb, hn]
  have hnl : n < 32 := by omega
  have HN : Hid _ := hn
  clear hn
  obtain ⟨t, ht⟩ : ∃ t : Nat, Fl.turN n a = t := ⟨(Fl.turN n a).toNat, by have := Fl.turN_bd n a (by omega) (by omega); omega⟩
  have HT : Hid _ := ht
  clear ht
  have c0 : wkC[18]? = some (.int .u8 5) := by kernel_rfl
  have c1 : wkC[19]? = some (.bool false) := by kernel_rfl
  have c2 : wkC[20]? = some (.bool false) := by kernel_rfl
  have zW := (Go.zero_of_info wk_info).1
  have H16 : Hid _ := h16
  clear h16
  go_enter Try.func84, Try.ntmps84
  go_wp2_with (first
    | (refine Gu.wpList_pureAt 14 14 _ _ _ ⟨#[.int .i64 6, .int .u32 a, .int .u32 b, .int .u32 old, undef, undef, undef, undef, .int .u32 0, .int .u32 0, undef, undef, undef, undef, .agg #[.int .u8 0, .bool false, .bool false], .agg #[.int .u8 1, .bool false, .bool false], .agg #[.int .u8 1, .bool true, .bool false], .agg #[.int .u8 2, .bool false, .bool false], .agg #[.int .u8 2, .bool true, .bool false], .agg #[.int .u8 3, .bool false, .bool false], .agg #[.int .u8 5, .bool false, .bool false], .agg #[.int .u8 6, .bool false, .bool false], .agg #[.int .u8 7, .bool false, .bool false], .agg #[.int .u8 8, .bool false, .bool false], .agg #[.int .u8 4, .bool false, .bool false], .agg #[.int .u8 1, .bool false, .bool true], .agg #[.int .u8 2, .bool false, .bool true], .agg wkC, undef, undef, undef, undef, undef, undef, undef, undef, undef, undef, undef, undef, undef, undef, undef, undef, undef, undef, undef, undef, undef, undef, undef, undef, undef, undef, undef, undef, undef, undef, undef, undef, undef, undef, undef, undef, undef, undef, undef, undef, undef, undef, undef, undef, undef, undef, undef, undef, undef, undef, undef, undef, undef, undef, undef, undef, undef, undef, undef, undef, undef, undef, undef, undef, undef, undef, undef, undef, undef, undef, undef, undef, undef, undef], []⟩ rfl (by kernel_rfl) ?_; simp only [List.drop_succ_cons, List.drop_zero])
    | (refine Gu.wpList_alloc_as rfl 194 rfl _ zW w.heap.size rfl ?_)
    | (refine wpList_store_row rfl 194 _ _ rfl w.heap.size wkC (by rfl) (by rfl) 194 wkZ (heap_alloc_last w _) (Go.zero_of_info wk_info).2 (by rfl) (by kernel_rfl) ?_; rw [World.setRow_alloc_new])
    | (go_at_call 128; refine (moved5 a n o16 t _ HT.out ha h0 hnl).mono ?_; rintro e w1 ⟨rfl, hB⟩))
  go_ret2
  exact ⟨rfl, wk_belT hB⟩
set_option maxHeartbeats 1000000 in
theorem work7z (a b old o16 : Nat) (w : World) (ha : a < 4294967296) (hb : b < 4294967296) (ho : old < 4294967296) (h16 : old % 16 = o16) (hn : b % 32 = 0) :
    Calls Try.prog 84 #[.int .i64 7, .int .u32 a, .int .u32 b, .int .u32 old] w fun e w' => e = .returned (.tuple #[.int .u32 ((a : Int)), .int .u32 ((o16 : Int))]) ∧ Below w.heap.size w w' := by
  have h15 : bits .and .u32 (old : Int) 15 = (o16 : Int) := by rw [and15 old ho, h16]
  have ho16 : o16 < 16 := by omega
  have h31 : bits .and .u32 (b : Int) 31 = 0 := by rw [and31 b hb, hn]; rfl
  have HN : Hid _ := hn
  clear hn
  have c0 : wkC[21]? = some (.int .u8 6) := by kernel_rfl
  have c1 : wkC[22]? = some (.bool false) := by kernel_rfl
  have c2 : wkC[23]? = some (.bool false) := by kernel_rfl
  have zW := (Go.zero_of_info wk_info).1
  have H16 : Hid _ := h16
  clear h16
  go_enter Try.func84, Try.ntmps84
  go_wp2_with (first
    | (refine Gu.wpList_pureAt 14 14 _ _ _ ⟨#[.int .i64 7, .int .u32 a, .int .u32 b, .int .u32 old, undef, undef, undef, undef, .int .u32 0, .int .u32 0, undef, undef, undef, undef, .agg #[.int .u8 0, .bool false, .bool false], .agg #[.int .u8 1, .bool false, .bool false], .agg #[.int .u8 1, .bool true, .bool false], .agg #[.int .u8 2, .bool false, .bool false], .agg #[.int .u8 2, .bool true, .bool false], .agg #[.int .u8 3, .bool false, .bool false], .agg #[.int .u8 5, .bool false, .bool false], .agg #[.int .u8 6, .bool false, .bool false], .agg #[.int .u8 7, .bool false, .bool false], .agg #[.int .u8 8, .bool false, .bool false], .agg #[.int .u8 4, .bool false, .bool false], .agg #[.int .u8 1, .bool false, .bool true], .agg #[.int .u8 2, .bool false, .bool true], .agg wkC, undef, undef, undef, undef, undef, undef, undef, undef, undef, undef, undef, undef, undef, undef, undef, undef, undef, undef, undef, undef, undef, undef, undef, undef, undef, undef, undef, undef, undef, undef, undef, undef, undef, undef, undef, undef, undef, undef, undef, undef, undef, undef, undef, undef, undef, undef, undef, undef, undef, undef, undef, undef, undef, undef, undef, undef, undef, undef, undef, undef, undef, undef, undef, undef, undef, undef, undef, undef, undef, undef, undef, undef, undef, undef], []⟩ rfl (by kernel_rfl) ?_; simp only [List.drop_succ_cons, List.drop_zero])
    | (refine Gu.wpList_alloc_as rfl 194 rfl _ zW w.heap.size rfl ?_)
    | (refine wpList_store_row rfl 194 _ _ rfl w.heap.size wkC (by rfl) (by rfl) 194 wkZ (heap_alloc_last w _) (Go.zero_of_info wk_info).2 (by rfl) (by kernel_rfl) ?_; rw [World.setRow_alloc_new])
    | (go_at_call 128; refine (moved_none 6 a o16 _).mono ?_; rintro e w1 ⟨rfl, rfl⟩))
  go_ret2
  exact ⟨ret2 rfl rfl, wk_bel w _ _⟩
set_option maxHeartbeats 1000000 in
theorem work7n (a b old o16 : Nat) (w : World) (ha : a < 4294967296) (hb : b < 4294967296) (ho : old < 4294967296) (h16 : old % 16 = o16) (n : Nat) (hn : b % 32 = n) (h0 : 0 < n) :
    Calls Try.prog 84 #[.int .i64 7, .int .u32 a, .int .u32 b, .int .u32 old] w fun e w' => e = .returned (.tuple #[.int .u32 ((a : Int) / 2 ^ n), .int .u32 (Fl.shrF a n)]) ∧ Below w.heap.size w w' := by
  have h15 : bits .and .u32 (old : Int) 15 = (o16 : Int) := by rw [and15 old ho, h16]
  have ho16 : o16 < 16 := by omega
  have h31 : bits .and .u32 (b : Int) 31 = (n : Int) := by rw [and31 b hb, hn]
  have hnl : n < 32 := by omega
  have HN : Hid _ := hn
  clear hn
  obtain ⟨t, ht⟩ : ∃ t : Nat, Fl.turN n a = t := ⟨(Fl.turN n a).toNat, by have := Fl.turN_bd n a (by omega) (by omega); omega⟩
  have HT : Hid _ := ht
  clear ht
  have c0 : wkC[21]? = some (.int .u8 6) := by kernel_rfl
  have c1 : wkC[22]? = some (.bool false) := by kernel_rfl
  have c2 : wkC[23]? = some (.bool false) := by kernel_rfl
  have zW := (Go.zero_of_info wk_info).1
  have H16 : Hid _ := h16
  clear h16
  go_enter Try.func84, Try.ntmps84
  go_wp2_with (first
    | (refine Gu.wpList_pureAt 14 14 _ _ _ ⟨#[.int .i64 7, .int .u32 a, .int .u32 b, .int .u32 old, undef, undef, undef, undef, .int .u32 0, .int .u32 0, undef, undef, undef, undef, .agg #[.int .u8 0, .bool false, .bool false], .agg #[.int .u8 1, .bool false, .bool false], .agg #[.int .u8 1, .bool true, .bool false], .agg #[.int .u8 2, .bool false, .bool false], .agg #[.int .u8 2, .bool true, .bool false], .agg #[.int .u8 3, .bool false, .bool false], .agg #[.int .u8 5, .bool false, .bool false], .agg #[.int .u8 6, .bool false, .bool false], .agg #[.int .u8 7, .bool false, .bool false], .agg #[.int .u8 8, .bool false, .bool false], .agg #[.int .u8 4, .bool false, .bool false], .agg #[.int .u8 1, .bool false, .bool true], .agg #[.int .u8 2, .bool false, .bool true], .agg wkC, undef, undef, undef, undef, undef, undef, undef, undef, undef, undef, undef, undef, undef, undef, undef, undef, undef, undef, undef, undef, undef, undef, undef, undef, undef, undef, undef, undef, undef, undef, undef, undef, undef, undef, undef, undef, undef, undef, undef, undef, undef, undef, undef, undef, undef, undef, undef, undef, undef, undef, undef, undef, undef, undef, undef, undef, undef, undef, undef, undef, undef, undef, undef, undef, undef, undef, undef, undef, undef, undef, undef, undef, undef, undef], []⟩ rfl (by kernel_rfl) ?_; simp only [List.drop_succ_cons, List.drop_zero])
    | (refine Gu.wpList_alloc_as rfl 194 rfl _ zW w.heap.size rfl ?_)
    | (refine wpList_store_row rfl 194 _ _ rfl w.heap.size wkC (by rfl) (by rfl) 194 wkZ (heap_alloc_last w _) (Go.zero_of_info wk_info).2 (by rfl) (by kernel_rfl) ?_; rw [World.setRow_alloc_new])
    | (go_at_call 128; refine (moved6 a n o16 t _ HT.out ha h0 hnl).mono ?_; rintro e w1 ⟨rfl, hB⟩))
  go_ret2
  exact ⟨rfl, wk_belT hB⟩
set_option maxHeartbeats 1000000 in
theorem work8z (a b old o16 : Nat) (w : World) (ha : a < 4294967296) (hb : b < 4294967296) (ho : old < 4294967296) (h16 : old % 16 = o16) (hn : b % 32 = 0) :
    Calls Try.prog 84 #[.int .i64 8, .int .u32 a, .int .u32 b, .int .u32 old] w fun e w' => e = .returned (.tuple #[.int .u32 ((a : Int)), .int .u32 ((o16 : Int))]) ∧ Below w.heap.size w w' := by
  have h15 : bits .and .u32 (old : Int) 15 = (o16 : Int) := by rw [and15 old ho, h16]
  have ho16 : o16 < 16 := by omega
  have h31 : bits .and .u32 (b : Int) 31 = 0 := by rw [and31 b hb, hn]; rfl
  have HN : Hid _ := hn
  clear hn
  have c0 : wkC[24]? = some (.int .u8 7) := by kernel_rfl
  have c1 : wkC[25]? = some (.bool false) := by kernel_rfl
  have c2 : wkC[26]? = some (.bool false) := by kernel_rfl
  have zW := (Go.zero_of_info wk_info).1
  have H16 : Hid _ := h16
  clear h16
  go_enter Try.func84, Try.ntmps84
  go_wp2_with (first
    | (refine Gu.wpList_pureAt 14 14 _ _ _ ⟨#[.int .i64 8, .int .u32 a, .int .u32 b, .int .u32 old, undef, undef, undef, undef, .int .u32 0, .int .u32 0, undef, undef, undef, undef, .agg #[.int .u8 0, .bool false, .bool false], .agg #[.int .u8 1, .bool false, .bool false], .agg #[.int .u8 1, .bool true, .bool false], .agg #[.int .u8 2, .bool false, .bool false], .agg #[.int .u8 2, .bool true, .bool false], .agg #[.int .u8 3, .bool false, .bool false], .agg #[.int .u8 5, .bool false, .bool false], .agg #[.int .u8 6, .bool false, .bool false], .agg #[.int .u8 7, .bool false, .bool false], .agg #[.int .u8 8, .bool false, .bool false], .agg #[.int .u8 4, .bool false, .bool false], .agg #[.int .u8 1, .bool false, .bool true], .agg #[.int .u8 2, .bool false, .bool true], .agg wkC, undef, undef, undef, undef, undef, undef, undef, undef, undef, undef, undef, undef, undef, undef, undef, undef, undef, undef, undef, undef, undef, undef, undef, undef, undef, undef, undef, undef, undef, undef, undef, undef, undef, undef, undef, undef, undef, undef, undef, undef, undef, undef, undef, undef, undef, undef, undef, undef, undef, undef, undef, undef, undef, undef, undef, undef, undef, undef, undef, undef, undef, undef, undef, undef, undef, undef, undef, undef, undef, undef, undef, undef, undef, undef], []⟩ rfl (by kernel_rfl) ?_; simp only [List.drop_succ_cons, List.drop_zero])
    | (refine Gu.wpList_alloc_as rfl 194 rfl _ zW w.heap.size rfl ?_)
    | (refine wpList_store_row rfl 194 _ _ rfl w.heap.size wkC (by rfl) (by rfl) 194 wkZ (heap_alloc_last w _) (Go.zero_of_info wk_info).2 (by rfl) (by kernel_rfl) ?_; rw [World.setRow_alloc_new])
    | (go_at_call 128; refine (moved_none 7 a o16 _).mono ?_; rintro e w1 ⟨rfl, rfl⟩))
  go_ret2
  exact ⟨ret2 rfl rfl, wk_bel w _ _⟩
set_option maxHeartbeats 1000000 in
theorem work8n (a b old o16 : Nat) (w : World) (ha : a < 4294967296) (hb : b < 4294967296) (ho : old < 4294967296) (h16 : old % 16 = o16) (n : Nat) (hn : b % 32 = n) (h0 : 0 < n) :
    Calls Try.prog 84 #[.int .i64 8, .int .u32 a, .int .u32 b, .int .u32 old] w fun e w' => e = .returned (.tuple #[.int .u32 (Fl.sgn a / 2 ^ n % 4294967296), .int .u32 (Fl.sarF a n)]) ∧ Below w.heap.size w w' := by
  have h15 : bits .and .u32 (old : Int) 15 = (o16 : Int) := by rw [and15 old ho, h16]
  have ho16 : o16 < 16 := by omega
  have h31 : bits .and .u32 (b : Int) 31 = (n : Int) := by rw [and31 b hb, hn]
  have hnl : n < 32 := by omega
  have HN : Hid _ := hn
  clear hn
  obtain ⟨t, ht⟩ : ∃ t : Nat, Fl.turN n a = t := ⟨(Fl.turN n a).toNat, by have := Fl.turN_bd n a (by omega) (by omega); omega⟩
  have HT : Hid _ := ht
  clear ht
  have c0 : wkC[24]? = some (.int .u8 7) := by kernel_rfl
  have c1 : wkC[25]? = some (.bool false) := by kernel_rfl
  have c2 : wkC[26]? = some (.bool false) := by kernel_rfl
  have zW := (Go.zero_of_info wk_info).1
  have H16 : Hid _ := h16
  clear h16
  go_enter Try.func84, Try.ntmps84
  go_wp2_with (first
    | (refine Gu.wpList_pureAt 14 14 _ _ _ ⟨#[.int .i64 8, .int .u32 a, .int .u32 b, .int .u32 old, undef, undef, undef, undef, .int .u32 0, .int .u32 0, undef, undef, undef, undef, .agg #[.int .u8 0, .bool false, .bool false], .agg #[.int .u8 1, .bool false, .bool false], .agg #[.int .u8 1, .bool true, .bool false], .agg #[.int .u8 2, .bool false, .bool false], .agg #[.int .u8 2, .bool true, .bool false], .agg #[.int .u8 3, .bool false, .bool false], .agg #[.int .u8 5, .bool false, .bool false], .agg #[.int .u8 6, .bool false, .bool false], .agg #[.int .u8 7, .bool false, .bool false], .agg #[.int .u8 8, .bool false, .bool false], .agg #[.int .u8 4, .bool false, .bool false], .agg #[.int .u8 1, .bool false, .bool true], .agg #[.int .u8 2, .bool false, .bool true], .agg wkC, undef, undef, undef, undef, undef, undef, undef, undef, undef, undef, undef, undef, undef, undef, undef, undef, undef, undef, undef, undef, undef, undef, undef, undef, undef, undef, undef, undef, undef, undef, undef, undef, undef, undef, undef, undef, undef, undef, undef, undef, undef, undef, undef, undef, undef, undef, undef, undef, undef, undef, undef, undef, undef, undef, undef, undef, undef, undef, undef, undef, undef, undef, undef, undef, undef, undef, undef, undef, undef, undef, undef, undef, undef, undef], []⟩ rfl (by kernel_rfl) ?_; simp only [List.drop_succ_cons, List.drop_zero])
    | (refine Gu.wpList_alloc_as rfl 194 rfl _ zW w.heap.size rfl ?_)
    | (refine wpList_store_row rfl 194 _ _ rfl w.heap.size wkC (by rfl) (by rfl) 194 wkZ (heap_alloc_last w _) (Go.zero_of_info wk_info).2 (by rfl) (by kernel_rfl) ?_; rw [World.setRow_alloc_new])
    | (go_at_call 128; refine (moved7 a n o16 t _ HT.out ha h0 hnl).mono ?_; rintro e w1 ⟨rfl, hB⟩))
  go_ret2
  exact ⟨rfl, wk_belT hB⟩
set_option maxHeartbeats 1000000 in
theorem work9z (a b old o16 : Nat) (w : World) (ha : a < 4294967296) (hb : b < 4294967296) (ho : old < 4294967296) (h16 : old % 16 = o16) (hn : b % 32 = 0) :
    Calls Try.prog 84 #[.int .i64 9, .int .u32 a, .int .u32 b, .int .u32 old] w fun e w' => e = .returned (.tuple #[.int .u32 ((a : Int)), .int .u32 ((o16 : Int))]) ∧ Below w.heap.size w w' := by
  have h15 : bits .and .u32 (old : Int) 15 = (o16 : Int) := by rw [and15 old ho, h16]
  have ho16 : o16 < 16 := by omega
  have h31 : bits .and .u32 (b : Int) 31 = 0 := by rw [and31 b hb, hn]; rfl
  have HN : Hid _ := hn
  clear hn
  have c0 : wkC[27]? = some (.int .u8 8) := by kernel_rfl
  have c1 : wkC[28]? = some (.bool false) := by kernel_rfl
  have c2 : wkC[29]? = some (.bool false) := by kernel_rfl
  have zW := (Go.zero_of_info wk_info).1
  have H16 : Hid _ := h16
  clear h16
  go_enter Try.func84, Try.ntmps84
  go_wp2_with (first
    | (refine Gu.wpList_pureAt 14 14 _ _ _ ⟨#[.int .i64 9, .int .u32 a, .int .u32 b, .int .u32 old, undef, undef, undef, undef, .int .u32 0, .int .u32 0, undef, undef, undef, undef, .agg #[.int .u8 0, .bool false, .bool false], .agg #[.int .u8 1, .bool false, .bool false], .agg #[.int .u8 1, .bool true, .bool false], .agg #[.int .u8 2, .bool false, .bool false], .agg #[.int .u8 2, .bool true, .bool false], .agg #[.int .u8 3, .bool false, .bool false], .agg #[.int .u8 5, .bool false, .bool false], .agg #[.int .u8 6, .bool false, .bool false], .agg #[.int .u8 7, .bool false, .bool false], .agg #[.int .u8 8, .bool false, .bool false], .agg #[.int .u8 4, .bool false, .bool false], .agg #[.int .u8 1, .bool false, .bool true], .agg #[.int .u8 2, .bool false, .bool true], .agg wkC, undef, undef, undef, undef, undef, undef, undef, undef, undef, undef, undef, undef, undef, undef, undef, undef, undef, undef, undef, undef, undef, undef, undef, undef, undef, undef, undef, undef, undef, undef, undef, undef, undef, undef, undef, undef, undef, undef, undef, undef, undef, undef, undef, undef, undef, undef, undef, undef, undef, undef, undef, undef, undef, undef, undef, undef, undef, undef, undef, undef, undef, undef, undef, undef, undef, undef, undef, undef, undef, undef, undef, undef, undef, undef], []⟩ rfl (by kernel_rfl) ?_; simp only [List.drop_succ_cons, List.drop_zero])
    | (refine Gu.wpList_alloc_as rfl 194 rfl _ zW w.heap.size rfl ?_)
    | (refine wpList_store_row rfl 194 _ _ rfl w.heap.size wkC (by rfl) (by rfl) 194 wkZ (heap_alloc_last w _) (Go.zero_of_info wk_info).2 (by rfl) (by kernel_rfl) ?_; rw [World.setRow_alloc_new])
    | (go_at_call 128; refine (moved_none 8 a o16 _).mono ?_; rintro e w1 ⟨rfl, rfl⟩))
  go_ret2
  exact ⟨ret2 rfl rfl, wk_bel w _ _⟩
set_option maxHeartbeats 1000000 in
theorem work9n (a b old o16 : Nat) (w : World) (ha : a < 4294967296) (hb : b < 4294967296) (ho : old < 4294967296) (h16 : old % 16 = o16) (n : Nat) (hn : b % 32 = n) (h0 : 0 < n) :
    Calls Try.prog 84 #[.int .i64 9, .int .u32 a, .int .u32 b, .int .u32 old] w fun e w' => e = .returned (.tuple #[.int .u32 (Fl.turN n a), .int .u32 (Fl.rolF a n o16)]) ∧ Below w.heap.size w w' := by
  have h15 : bits .and .u32 (old : Int) 15 = (o16 : Int) := by rw [and15 old ho, h16]
  have ho16 : o16 < 16 := by omega
  have h31 : bits .and .u32 (b : Int) 31 = (n : Int) := by rw [and31 b hb, hn]
  have hnl : n < 32 := by omega
  have HN : Hid _ := hn
  clear hn
  obtain ⟨t, ht⟩ : ∃ t : Nat, Fl.turN n a = t := ⟨(Fl.turN n a).toNat, by have := Fl.turN_bd n a (by omega) (by omega); omega⟩
  have HT : Hid _ := ht
  clear ht
  have c0 : wkC[27]? = some (.int .u8 8) := by kernel_rfl
  have c1 : wkC[28]? = some (.bool false) := by kernel_rfl
  have c2 : wkC[29]? = some (.bool false) := by kernel_rfl
  have zW := (Go.zero_of_info wk_info).1
  have H16 : Hid _ := h16
  clear h16
  go_enter Try.func84, Try.ntmps84
  go_wp2_with (first
    | (refine Gu.wpList_pureAt 14 14 _ _ _ ⟨#[.int .i64 9, .int .u32 a, .int .u32 b, .int .u32 old, undef, undef, undef, undef, .int .u32 0, .int .u32 0, undef, undef, undef, undef, .agg #[.int .u8 0, .bool false, .bool false], .agg #[.int .u8 1, .bool false, .bool false], .agg #[.int .u8 1, .bool true, .bool false], .agg #[.int .u8 2, .bool false, .bool false], .agg #[.int .u8 2, .bool true, .bool false], .agg #[.int .u8 3, .bool false, .bool false], .agg #[.int .u8 5, .bool false, .bool false], .agg #[.int .u8 6, .bool false, .bool false], .agg #[.int .u8 7, .bool false, .bool false], .agg #[.int .u8 8, .bool false, .bool false], .agg #[.int .u8 4, .bool false, .bool false], .agg #[.int .u8 1, .bool false, .bool true], .agg #[.int .u8 2, .bool false, .bool true], .agg wkC, undef, undef, undef, undef, undef, undef, undef, undef, undef, undef, undef, undef, undef, undef, undef, undef, undef, undef, undef, undef, undef, undef, undef, undef, undef, undef, undef, undef, undef, undef, undef, undef, undef, undef, undef, undef, undef, undef, undef, undef, undef, undef, undef, undef, undef, undef, undef, undef, undef, undef, undef, undef, undef, undef, undef, undef, undef, undef, undef, undef, undef, undef, undef, undef, undef, undef, undef, undef, undef, undef, undef, undef, undef, undef], []⟩ rfl (by kernel_rfl) ?_; simp only [List.drop_succ_cons, List.drop_zero])
    | (refine Gu.wpList_alloc_as rfl 194 rfl _ zW w.heap.size rfl ?_)
    | (refine wpList_store_row rfl 194 _ _ rfl w.heap.size wkC (by rfl) (by rfl) 194 wkZ (heap_alloc_last w _) (Go.zero_of_info wk_info).2 (by rfl) (by kernel_rfl) ?_; rw [World.setRow_alloc_new])
    | (go_at_call 128; refine (moved8 a n o16 t _ HT.out ha h0 hnl ho16).mono ?_; rintro e w1 ⟨rfl, hB⟩))
  go_ret2
  exact ⟨ret2 HT.out.symm rfl, wk_belT hB⟩
end Go.Proofs.Ytkgbjpdoigdjnaa
