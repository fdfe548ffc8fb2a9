import Derived.Test.YtkgbjpdoigdjnaaJ32
namespace Go.Proofs.Ytkgbjpdoigdjnaa
open Go.RowKit
set_option maxRecDepth 100000
set_option linter.unusedVariables false
set_option linter.unusedSimpArgs false
set_option maxHeartbeats 1000000 in
theorem ho8t (f : Nat) (v : Bool) (w : World) (hv : (bits .and .u32 (f : Int) 8 != 0) = v) (hs : (bits .and .u32 (f : Int) 2 != 0) = true) :
    Calls Try.prog 33 #[.int .i64 8, .int .u32 f] w fun e w' => e = .returned (.bool (true == true)) ∧ Below w.heap.size w w' := by
  have c0 : hoC[12]? = some (.int .u32 2) := by kernel_rfl
  have c1 : hoC[13]? = some (.bool false) := by kernel_rfl
  have c2 : hoC[14]? = some (.bool false) := by kernel_rfl
  have zW := (Go.zero_of_info ho_info).1
  go_enter Try.func33, Try.ntmps33
  go_wp2_with (first
    | (refine Gu.wpList_pureAt 9 9 _ _ _ ⟨#[.int .i64 8, .int .u32 f, undef, undef, .bool false, undef, undef, undef, undef, .agg #[.int .u32 8, .bool false, .bool false], .agg #[.int .u32 4, .bool false, .bool false], .agg #[.int .u32 1, .bool false, .bool false], .agg #[.int .u32 5, .bool false, .bool false], .agg #[.int .u32 2, .bool false, .bool false], .agg #[.int .u32 0, .bool true, .bool false], .agg #[.int .u32 1, .bool true, .bool false], .agg #[.int .u32 0, .bool false, .bool true], .agg hoC, undef, undef, undef, undef, undef, undef, undef, undef, undef, undef, undef, undef, undef, undef, undef, undef, undef, undef, undef, undef, undef, undef, undef, undef, undef, undef, undef, undef, undef, undef, undef, undef, undef, undef, undef, undef, undef, undef, undef], []⟩ rfl (by kernel_rfl) ?_; simp only [List.drop_succ_cons, List.drop_zero])
    | (refine Gu.wpList_alloc_as rfl 149 rfl _ zW w.heap.size rfl ?_)
    | (refine wpList_store_row rfl 149 _ _ rfl w.heap.size hoC (by rfl) (by rfl) 149 hoZ (heap_alloc_last w _) (Go.zero_of_info ho_info).2 (by rfl) (by kernel_rfl) ?_; rw [World.setRow_alloc_new]))
  go_ret
  exact ⟨by cases v <;> rfl, wk_bel w _ _⟩
set_option maxHeartbeats 1000000 in
theorem ho8f (f : Nat) (v : Bool) (w : World) (hv : (bits .and .u32 (f : Int) 8 != 0) = v) (hs : (bits .and .u32 (f : Int) 2 != 0) = false) :
    Calls Try.prog 33 #[.int .i64 8, .int .u32 f] w fun e w' => e = .returned (.bool (false == true)) ∧ Below w.heap.size w w' := by
  have c0 : hoC[12]? = some (.int .u32 2) := by kernel_rfl
  have c1 : hoC[13]? = some (.bool false) := by kernel_rfl
  have c2 : hoC[14]? = some (.bool false) := by kernel_rfl
  have zW := (Go.zero_of_info ho_info).1
  go_enter Try.func33, Try.ntmps33
  go_wp2_with (first
    | (refine Gu.wpList_pureAt 9 9 _ _ _ ⟨#[.int .i64 8, .int .u32 f, undef, undef, .bool false, undef, undef, undef, undef, .agg #[.int .u32 8, .bool false, .bool false], .agg #[.int .u32 4, .bool false, .bool false], .agg #[.int .u32 1, .bool false, .bool false], .agg #[.int .u32 5, .bool false, .bool false], .agg #[.int .u32 2, .bool false, .bool false], .agg #[.int .u32 0, .bool true, .bool false], .agg #[.int .u32 1, .bool true, .bool false], .agg #[.int .u32 0, .bool false, .bool true], .agg hoC, undef, undef, undef, undef, undef, undef, undef, undef, undef, undef, undef, undef, undef, undef, undef, undef, undef, undef, undef, undef, undef, undef, undef, undef, undef, undef, undef, undef, undef, undef, undef, undef, undef, undef, undef, undef, undef, undef, undef], []⟩ rfl (by kernel_rfl) ?_; simp only [List.drop_succ_cons, List.drop_zero])
    | (refine Gu.wpList_alloc_as rfl 149 rfl _ zW w.heap.size rfl ?_)
    | (refine wpList_store_row rfl 149 _ _ rfl w.heap.size hoC (by rfl) (by rfl) 149 hoZ (heap_alloc_last w _) (Go.zero_of_info ho_info).2 (by rfl) (by kernel_rfl) ?_; rw [World.setRow_alloc_new]))
  go_ret
  exact ⟨by cases v <;> rfl, wk_bel w _ _⟩
theorem ph8 (f : Nat) (w : World) (hf : f < 4294967296) : Calls Try.prog 33 #[.int .i64 8, .int .u32 f] w fun e w' => e = .returned (.bool (Fl.holdsF 8 f)) ∧ Below w.heap.size w w' := by
  have b2 := ho_bits f 2 hf (by omega)
  have b8 := ho_bits f 8 hf (by omega)
  have bS := ho_bits f 2 hf (by omega)
  unfold Fl.holdsF
  generalize ((f : Int) % 2 == 1) = z at *
  generalize ((f : Int) / 2 % 2 == 1) = n at *
  generalize ((f : Int) / 4 % 2 == 1) = y at *
  generalize ((f : Int) / 8 % 2 == 1) = v at *
  cases z <;> cases n <;> cases y <;> cases v
  · rw [show Fl.holdsZ 8 false false false false = false from by decide]; exact ho8f f _ w b8 bS
  · rw [show Fl.holdsZ 8 false false false true = false from by decide]; exact ho8f f _ w b8 bS
  · rw [show Fl.holdsZ 8 false false true false = false from by decide]; exact ho8f f _ w b8 bS
  · rw [show Fl.holdsZ 8 false false true true = false from by decide]; exact ho8f f _ w b8 bS
  · rw [show Fl.holdsZ 8 false true false false = true from by decide]; exact ho8t f _ w b8 bS
  · rw [show Fl.holdsZ 8 false true false true = true from by decide]; exact ho8t f _ w b8 bS
  · rw [show Fl.holdsZ 8 false true true false = true from by decide]; exact ho8t f _ w b8 bS
  · rw [show Fl.holdsZ 8 false true true true = true from by decide]; exact ho8t f _ w b8 bS
  · rw [show Fl.holdsZ 8 true false false false = false from by decide]; exact ho8f f _ w b8 bS
  · rw [show Fl.holdsZ 8 true false false true = false from by decide]; exact ho8f f _ w b8 bS
  · rw [show Fl.holdsZ 8 true false true false = false from by decide]; exact ho8f f _ w b8 bS
  · rw [show Fl.holdsZ 8 true false true true = false from by decide]; exact ho8f f _ w b8 bS
  · rw [show Fl.holdsZ 8 true true false false = true from by decide]; exact ho8t f _ w b8 bS
  · rw [show Fl.holdsZ 8 true true false true = true from by decide]; exact ho8t f _ w b8 bS
  · rw [show Fl.holdsZ 8 true true true false = true from by decide]; exact ho8t f _ w b8 bS
  · rw [show Fl.holdsZ 8 true true true true = true from by decide]; exact ho8t f _ w b8 bS
set_option maxHeartbeats 1000000 in
theorem ho9t (f : Nat) (v : Bool) (w : World) (hv : (bits .and .u32 (f : Int) 8 != 0) = v) (hs : (bits .and .u32 (f : Int) 2 != 0) = true) :
    Calls Try.prog 33 #[.int .i64 9, .int .u32 f] w fun e w' => e = .returned (.bool (true == false)) ∧ Below w.heap.size w w' := by
  have c0 : hoC[12]? = some (.int .u32 2) := by kernel_rfl
  have c1 : hoC[13]? = some (.bool false) := by kernel_rfl
  have c2 : hoC[14]? = some (.bool false) := by kernel_rfl
  have zW := (Go.zero_of_info ho_info).1
  go_enter Try.func33, Try.ntmps33
  go_wp2_with (first
    | (refine Gu.wpList_pureAt 9 9 _ _ _ ⟨#[.int .i64 9, .int .u32 f, undef, undef, .bool false, undef, undef, undef, undef, .agg #[.int .u32 8, .bool false, .bool false], .agg #[.int .u32 4, .bool false, .bool false], .agg #[.int .u32 1, .bool false, .bool false], .agg #[.int .u32 5, .bool false, .bool false], .agg #[.int .u32 2, .bool false, .bool false], .agg #[.int .u32 0, .bool true, .bool false], .agg #[.int .u32 1, .bool true, .bool false], .agg #[.int .u32 0, .bool false, .bool true], .agg hoC, undef, undef, undef, undef, undef, undef, undef, undef, undef, undef, undef, undef, undef, undef, undef, undef, undef, undef, undef, undef, undef, undef, undef, undef, undef, undef, undef, undef, undef, undef, undef, undef, undef, undef, undef, undef, undef, undef, undef], []⟩ rfl (by kernel_rfl) ?_; simp only [List.drop_succ_cons, List.drop_zero])
    | (refine Gu.wpList_alloc_as rfl 149 rfl _ zW w.heap.size rfl ?_)
    | (refine wpList_store_row rfl 149 _ _ rfl w.heap.size hoC (by rfl) (by rfl) 149 hoZ (heap_alloc_last w _) (Go.zero_of_info ho_info).2 (by rfl) (by kernel_rfl) ?_; rw [World.setRow_alloc_new]))
  go_ret
  exact ⟨by cases v <;> rfl, wk_bel w _ _⟩
set_option maxHeartbeats 1000000 in
theorem ho9f (f : Nat) (v : Bool) (w : World) (hv : (bits .and .u32 (f : Int) 8 != 0) = v) (hs : (bits .and .u32 (f : Int) 2 != 0) = false) :
    Calls Try.prog 33 #[.int .i64 9, .int .u32 f] w fun e w' => e = .returned (.bool (false == false)) ∧ Below w.heap.size w w' := by
  have c0 : hoC[12]? = some (.int .u32 2) := by kernel_rfl
  have c1 : hoC[13]? = some (.bool false) := by kernel_rfl
  have c2 : hoC[14]? = some (.bool false) := by kernel_rfl
  have zW := (Go.zero_of_info ho_info).1
  go_enter Try.func33, Try.ntmps33
  go_wp2_with (first
    | (refine Gu.wpList_pureAt 9 9 _ _ _ ⟨#[.int .i64 9, .int .u32 f, undef, undef, .bool false, undef, undef, undef, undef, .agg #[.int .u32 8, .bool false, .bool false], .agg #[.int .u32 4, .bool false, .bool false], .agg #[.int .u32 1, .bool false, .bool false], .agg #[.int .u32 5, .bool false, .bool false], .agg #[.int .u32 2, .bool false, .bool false], .agg #[.int .u32 0, .bool true, .bool false], .agg #[.int .u32 1, .bool true, .bool false], .agg #[.int .u32 0, .bool false, .bool true], .agg hoC, undef, undef, undef, undef, undef, undef, undef, undef, undef, undef, undef, undef, undef, undef, undef, undef, undef, undef, undef, undef, undef, undef, undef, undef, undef, undef, undef, undef, undef, undef, undef, undef, undef, undef, undef, undef, undef, undef, undef], []⟩ rfl (by kernel_rfl) ?_; simp only [List.drop_succ_cons, List.drop_zero])
    | (refine Gu.wpList_alloc_as rfl 149 rfl _ zW w.heap.size rfl ?_)
    | (refine wpList_store_row rfl 149 _ _ rfl w.heap.size hoC (by rfl) (by rfl) 149 hoZ (heap_alloc_last w _) (Go.zero_of_info ho_info).2 (by rfl) (by kernel_rfl) ?_; rw [World.setRow_alloc_new]))
  go_ret
  exact ⟨by cases v <;> rfl, wk_bel w _ _⟩
theorem ph9 (f : Nat) (w : World) (hf : f < 4294967296) : Calls Try.prog 33 #[.int .i64 9, .int .u32 f] w fun e w' => e = .returned (.bool (Fl.holdsF 9 f)) ∧ Below w.heap.size w w' := by
  have b2 := ho_bits f 2 hf (by omega)
  have b8 := ho_bits f 8 hf (by omega)
  have bS := ho_bits f 2 hf (by omega)
  unfold Fl.holdsF
  generalize ((f : Int) % 2 == 1) = z at *
  generalize ((f : Int) / 2 % 2 == 1) = n at *
  generalize ((f : Int) / 4 % 2 == 1) = y at *
  generalize ((f : Int) / 8 % 2 == 1) = v at *
  cases z <;> cases n <;> cases y <;> cases v
  · rw [show Fl.holdsZ 9 false false false false = true from by decide]; exact ho9f f _ w b8 bS
  · rw [show Fl.holdsZ 9 false false false true = true from by decide]; exact ho9f f _ w b8 bS
  · rw [show Fl.holdsZ 9 false false true false = true from by decide]; exact ho9f f _ w b8 bS
  · rw [show Fl.holdsZ 9 false false true true = true from by decide]; exact ho9f f _ w b8 bS
  · rw [show Fl.holdsZ 9 false true false false = false from by decide]; exact ho9t f _ w b8 bS
  · rw [show Fl.holdsZ 9 false true false true = false from by decide]; exact ho9t f _ w b8 bS
  · rw [show Fl.holdsZ 9 false true true false = false from by decide]; exact ho9t f _ w b8 bS
  · rw [show Fl.holdsZ 9 false true true true = false from by decide]; exact ho9t f _ w b8 bS
  · rw [show Fl.holdsZ 9 true false false false = true from by decide]; exact ho9f f _ w b8 bS
  · rw [show Fl.holdsZ 9 true false false true = true from by decide]; exact ho9f f _ w b8 bS
  · rw [show Fl.holdsZ 9 true false true false = true from by decide]; exact ho9f f _ w b8 bS
  · rw [show Fl.holdsZ 9 true false true true = true from by decide]; exact ho9f f _ w b8 bS
  · rw [show Fl.holdsZ 9 true true false false = false from by decide]; exact ho9t f _ w b8 bS
  · rw [show Fl.holdsZ 9 true true false true = false from by decide]; exact ho9t f _ w b8 bS
  · rw [show Fl.holdsZ 9 true true true false = false from by decide]; exact ho9t f _ w b8 bS
  · rw [show Fl.holdsZ 9 true true true true = false from by decide]; exact ho9t f _ w b8 bS
set_option maxHeartbeats 1000000 in
theorem ho10f (f : Nat) (n v : Bool) (w : World) (hn : (bits .and .u32 (f : Int) 2 != 0) = n) (hv : (bits .and .u32 (f : Int) 8 != 0) = v) (hs : (bits .and .u32 (f : Int) 0 != 0) = false) :
    Calls Try.prog 33 #[.int .i64 10, .int .u32 f] w fun e w' => e = .returned (.bool ((n != v) == true)) ∧ Below w.heap.size w w' := by
  have c0 : hoC[15]? = some (.int .u32 0) := by kernel_rfl
  have c1 : hoC[16]? = some (.bool true) := by kernel_rfl
  have c2 : hoC[17]? = some (.bool false) := by kernel_rfl
  have zW := (Go.zero_of_info ho_info).1
  go_enter Try.func33, Try.ntmps33
  go_wp2_with (first
    | (refine Gu.wpList_pureAt 9 9 _ _ _ ⟨#[.int .i64 10, .int .u32 f, undef, undef, .bool false, undef, undef, undef, undef, .agg #[.int .u32 8, .bool false, .bool false], .agg #[.int .u32 4, .bool false, .bool false], .agg #[.int .u32 1, .bool false, .bool false], .agg #[.int .u32 5, .bool false, .bool false], .agg #[.int .u32 2, .bool false, .bool false], .agg #[.int .u32 0, .bool true, .bool false], .agg #[.int .u32 1, .bool true, .bool false], .agg #[.int .u32 0, .bool false, .bool true], .agg hoC, undef, undef, undef, undef, undef, undef, undef, undef, undef, undef, undef, undef, undef, undef, undef, undef, undef, undef, undef, undef, undef, undef, undef, undef, undef, undef, undef, undef, undef, undef, undef, undef, undef, undef, undef, undef, undef, undef, undef], []⟩ rfl (by kernel_rfl) ?_; simp only [List.drop_succ_cons, List.drop_zero])
    | (refine Gu.wpList_alloc_as rfl 149 rfl _ zW w.heap.size rfl ?_)
    | (refine wpList_store_row rfl 149 _ _ rfl w.heap.size hoC (by rfl) (by rfl) 149 hoZ (heap_alloc_last w _) (Go.zero_of_info ho_info).2 (by rfl) (by kernel_rfl) ?_; rw [World.setRow_alloc_new]))
  go_ret
  exact ⟨by cases n <;> cases v <;> rfl, wk_bel w _ _⟩
theorem ph10 (f : Nat) (w : World) (hf : f < 4294967296) : Calls Try.prog 33 #[.int .i64 10, .int .u32 f] w fun e w' => e = .returned (.bool (Fl.holdsF 10 f)) ∧ Below w.heap.size w w' := by
  have b2 := ho_bits f 2 hf (by omega)
  have b8 := ho_bits f 8 hf (by omega)
  have bS := ho_bits f 0 hf (by omega)
  unfold Fl.holdsF
  generalize ((f : Int) % 2 == 1) = z at *
  generalize ((f : Int) / 2 % 2 == 1) = n at *
  generalize ((f : Int) / 4 % 2 == 1) = y at *
  generalize ((f : Int) / 8 % 2 == 1) = v at *
  cases z <;> cases n <;> cases y <;> cases v
  · rw [show Fl.holdsZ 10 false false false false = false from by decide]; exact ho10f f _ _ w b2 b8 bS
  · rw [show Fl.holdsZ 10 false false false true = true from by decide]; exact ho10f f _ _ w b2 b8 bS
  · rw [show Fl.holdsZ 10 false false true false = false from by decide]; exact ho10f f _ _ w b2 b8 bS
  · rw [show Fl.holdsZ 10 false false true true = true from by decide]; exact ho10f f _ _ w b2 b8 bS
  · rw [show Fl.holdsZ 10 false true false false = true from by decide]; exact ho10f f _ _ w b2 b8 bS
  · rw [show Fl.holdsZ 10 false true false true = false from by decide]; exact ho10f f _ _ w b2 b8 bS
  · rw [show Fl.holdsZ 10 false true true false = true from by decide]; exact ho10f f _ _ w b2 b8 bS
  · rw [show Fl.holdsZ 10 false true true true = false from by decide]; exact ho10f f _ _ w b2 b8 bS
  · rw [show Fl.holdsZ 10 true false false false = false from by decide]; exact ho10f f _ _ w b2 b8 bS
  · rw [show Fl.holdsZ 10 true false false true = true from by decide]; exact ho10f f _ _ w b2 b8 bS
  · rw [show Fl.holdsZ 10 true false true false = false from by decide]; exact ho10f f _ _ w b2 b8 bS
  · rw [show Fl.holdsZ 10 true false true true = true from by decide]; exact ho10f f _ _ w b2 b8 bS
  · rw [show Fl.holdsZ 10 true true false false = true from by decide]; exact ho10f f _ _ w b2 b8 bS
  · rw [show Fl.holdsZ 10 true true false true = false from by decide]; exact ho10f f _ _ w b2 b8 bS
  · rw [show Fl.holdsZ 10 true true true false = true from by decide]; exact ho10f f _ _ w b2 b8 bS
  · rw [show Fl.holdsZ 10 true true true true = false from by decide]; exact ho10f f _ _ w b2 b8 bS
set_option maxHeartbeats 1000000 in
theorem ho11f (f : Nat) (n v : Bool) (w : World) (hn : (bits .and .u32 (f : Int) 2 != 0) = n) (hv : (bits .and .u32 (f : Int) 8 != 0) = v) (hs : (bits .and .u32 (f : Int) 0 != 0) = false) :
    Calls Try.prog 33 #[.int .i64 11, .int .u32 f] w fun e w' => e = .returned (.bool ((n != v) == false)) ∧ Below w.heap.size w w' := by
  have c0 : hoC[15]? = some (.int .u32 0) := by kernel_rfl
  have c1 : hoC[16]? = some (.bool true) := by kernel_rfl
  have c2 : hoC[17]? = some (.bool false) := by kernel_rfl
  have zW := (Go.zero_of_info ho_info).1
  go_enter Try.func33, Try.ntmps33
  go_wp2_with (first
    | (refine Gu.wpList_pureAt 9 9 _ _ _ ⟨#[.int .i64 11, .int .u32 f, undef, undef, .bool false, undef, undef, undef, undef, .agg #[.int .u32 8, .bool false, .bool false], .agg #[.int .u32 4, .bool false, .bool false], .agg #[.int .u32 1, .bool false, .bool false], .agg #[.int .u32 5, .bool false, .bool false], .agg #[.int .u32 2, .bool false, .bool false], .agg #[.int .u32 0, .bool true, .bool false], .agg #[.int .u32 1, .bool true, .bool false], .agg #[.int .u32 0, .bool false, .bool true], .agg hoC, undef, undef, undef, undef, undef, undef, undef, undef, undef, undef, undef, undef, undef, undef, undef, undef, undef, undef, undef, undef, undef, undef, undef, undef, undef, undef, undef, undef, undef, undef, undef, undef, undef, undef, undef, undef, undef, undef, undef], []⟩ rfl (by kernel_rfl) ?_; simp only [List.drop_succ_cons, List.drop_zero])
    | (refine Gu.wpList_alloc_as rfl 149 rfl _ zW w.heap.size rfl ?_)
    | (refine wpList_store_row rfl 149 _ _ rfl w.heap.size hoC (by rfl) (by rfl) 149 hoZ (heap_alloc_last w _) (Go.zero_of_info ho_info).2 (by rfl) (by kernel_rfl) ?_; rw [World.setRow_alloc_new]))
  go_ret
  exact ⟨by cases n <;> cases v <;> rfl, wk_bel w _ _⟩
theorem ph11 (f : Nat) (w : World) (hf : f < 4294967296) : Calls Try.prog 33 #[.int .i64 11, .int .u32 f] w fun e w' => e = .returned (.bool (Fl.holdsF 11 f)) ∧ Below w.heap.size w w' := by
  have b2 := ho_bits f 2 hf (by omega)
  have b8 := ho_bits f 8 hf (by omega)
  have bS := ho_bits f 0 hf (by omega)
  unfold Fl.holdsF
  generalize ((f : Int) % 2 == 1) = z at *
  generalize ((f : Int) / 2 % 2 == 1) = n at *
  generalize ((f : Int) / 4 % 2 == 1) = y at *
  generalize ((f : Int) / 8 % 2 == 1) = v at *
  cases z <;> cases n <;> cases y <;> cases v
  · rw [show Fl.holdsZ 11 false false false false = true from by decide]; exact ho11f f _ _ w b2 b8 bS
  · rw [show Fl.holdsZ 11 false false false true = false from by decide]; exact ho11f f _ _ w b2 b8 bS
  · rw [show Fl.holdsZ 11 false false true false = true from by decide]; exact ho11f f _ _ w b2 b8 bS
  · rw [show Fl.holdsZ 11 false false true true = false from by decide]; exact ho11f f _ _ w b2 b8 bS
  · rw [show Fl.holdsZ 11 false true false false = false from by decide]; exact ho11f f _ _ w b2 b8 bS
  · rw [show Fl.holdsZ 11 false true false true = true from by decide]; exact ho11f f _ _ w b2 b8 bS
  · rw [show Fl.holdsZ 11 false true true false = false from by decide]; exact ho11f f _ _ w b2 b8 bS
  · rw [show Fl.holdsZ 11 false true true true = true from by decide]; exact ho11f f _ _ w b2 b8 bS
  · rw [show Fl.holdsZ 11 true false false false = true from by decide]; exact ho11f f _ _ w b2 b8 bS
  · rw [show Fl.holdsZ 11 true false false true = false from by decide]; exact ho11f f _ _ w b2 b8 bS
  · rw [show Fl.holdsZ 11 true false true false = true from by decide]; exact ho11f f _ _ w b2 b8 bS
  · rw [show Fl.holdsZ 11 true false true true = false from by decide]; exact ho11f f _ _ w b2 b8 bS
  · rw [show Fl.holdsZ 11 true true false false = false from by decide]; exact ho11f f _ _ w b2 b8 bS
  · rw [show Fl.holdsZ 11 true true false true = true from by decide]; exact ho11f f _ _ w b2 b8 bS
  · rw [show Fl.holdsZ 11 true true true false = false from by decide]; exact ho11f f _ _ w b2 b8 bS
  · rw [show Fl.holdsZ 11 true true true true = true from by decide]; exact ho11f f _ _ w b2 b8 bS
end Go.Proofs.Ytkgbjpdoigdjnaa

namespace Go.Proofs.Ytkgbjpdoigdjnaa
open Go.RowKit
set_option maxRecDepth 100000
set_option linter.unusedVariables false
set_option linter.unusedSimpArgs false
set_option maxHeartbeats 1000000 in
theorem ho12t (f : Nat) (n v : Bool) (w : World) (hn : (bits .and .u32 (f : Int) 2 != 0) = n) (hv : (bits .and .u32 (f : Int) 8 != 0) = v) (hs : (bits .and .u32 (f : Int) 1 != 0) = true) :
    Calls Try.prog 33 #[.int .i64 12, .int .u32 f] w fun e w' => e = .returned (.bool (true == true)) ∧ Below w.heap.size w w' := by
  have c0 : hoC[18]? = some (.int .u32 1) := by kernel_rfl
  have c1 : hoC[19]? = some (.bool true) := by kernel_rfl
  have c2 : hoC[20]? = some (.bool false) := by kernel_rfl
  have zW := (Go.zero_of_info ho_info).1
  go_enter Try.func33, Try.ntmps33
  go_wp2_with (first
    | (refine Gu.wpList_pureAt 9 9 _ _ _ ⟨#[.int .i64 12, .int .u32 f, undef, undef, .bool false, undef, undef, undef, undef, .agg #[.int .u32 8, .bool false, .bool false], .agg #[.int .u32 4, .bool false, .bool false], .agg #[.int .u32 1, .bool false, .bool false], .agg #[.int .u32 5, .bool false, .bool false], .agg #[.int .u32 2, .bool false, .bool false], .agg #[.int .u32 0, .bool true, .bool false], .agg #[.int .u32 1, .bool true, .bool false], .agg #[.int .u32 0, .bool false, .bool true], .agg hoC, undef, undef, undef, undef, undef, undef, undef, undef, undef, undef, undef, undef, undef, undef, undef, undef, undef, undef, undef, undef, undef, undef, undef, undef, undef, undef, undef, undef, undef, undef, undef, undef, undef, undef, undef, undef, undef, undef, undef], []⟩ rfl (by kernel_rfl) ?_; simp only [List.drop_succ_cons, List.drop_zero])
    | (refine Gu.wpList_alloc_as rfl 149 rfl _ zW w.heap.size rfl ?_)
    | (refine wpList_store_row rfl 149 _ _ rfl w.heap.size hoC (by rfl) (by rfl) 149 hoZ (heap_alloc_last w _) (Go.zero_of_info ho_info).2 (by rfl) (by kernel_rfl) ?_; rw [World.setRow_alloc_new]))
  go_ret
  exact ⟨by cases n <;> cases v <;> rfl, wk_bel w _ _⟩
set_option maxHeartbeats 1000000 in
theorem ho12f (f : Nat) (n v : Bool) (w : World) (hn : (bits .and .u32 (f : Int) 2 != 0) = n) (hv : (bits .and .u32 (f : Int) 8 != 0) = v) (hs : (bits .and .u32 (f : Int) 1 != 0) = false) :
    Calls Try.prog 33 #[.int .i64 12, .int .u32 f] w fun e w' => e = .returned (.bool ((n != v) == true)) ∧ Below w.heap.size w w' := by
  have c0 : hoC[18]? = some (.int .u32 1) := by kernel_rfl
  have c1 : hoC[19]? = some (.bool true) := by kernel_rfl
  have c2 : hoC[20]? = some (.bool false) := by kernel_rfl
  have zW := (Go.zero_of_info ho_info).1
  go_enter Try.func33, Try.ntmps33
  go_wp2_with (first
    | (refine Gu.wpList_pureAt 9 9 _ _ _ ⟨#[.int .i64 12, .int .u32 f, undef, undef, .bool false, undef, undef, undef, undef, .agg #[.int .u32 8, .bool false, .bool false], .agg #[.int .u32 4, .bool false, .bool false], .agg #[.int .u32 1, .bool false, .bool false], .agg #[.int .u32 5, .bool false, .bool false], .agg #[.int .u32 2, .bool false, .bool false], .agg #[.int .u32 0, .bool true, .bool false], .agg #[.int .u32 1, .bool true, .bool false], .agg #[.int .u32 0, .bool false, .bool true], .agg hoC, undef, undef, undef, undef, undef, undef, undef, undef, undef, undef, undef, undef, undef, undef, undef, undef, undef, undef, undef, undef, undef, undef, undef, undef, undef, undef, undef, undef, undef, undef, undef, undef, undef, undef, undef, undef, undef, undef, undef], []⟩ rfl (by kernel_rfl) ?_; simp only [List.drop_succ_cons, List.drop_zero])
    | (refine Gu.wpList_alloc_as rfl 149 rfl _ zW w.heap.size rfl ?_)
    | (refine wpList_store_row rfl 149 _ _ rfl w.heap.size hoC (by rfl) (by rfl) 149 hoZ (heap_alloc_last w _) (Go.zero_of_info ho_info).2 (by rfl) (by kernel_rfl) ?_; rw [World.setRow_alloc_new]))
  go_ret
  exact ⟨by cases n <;> cases v <;> rfl, wk_bel w _ _⟩
theorem ph12 (f : Nat) (w : World) (hf : f < 4294967296) : Calls Try.prog 33 #[.int .i64 12, .int .u32 f] w fun e w' => e = .returned (.bool (Fl.holdsF 12 f)) ∧ Below w.heap.size w w' := by
  have b2 := ho_bits f 2 hf (by omega)
  have b8 := ho_bits f 8 hf (by omega)
  have bS := ho_bits f 1 hf (by omega)
  unfold Fl.holdsF
  generalize ((f : Int) % 2 == 1) = z at *
  generalize ((f : Int) / 2 % 2 == 1) = n at *
  generalize ((f : Int) / 4 % 2 == 1) = y at *
  generalize ((f : Int) / 8 % 2 == 1) = v at *
  cases z <;> cases n <;> cases y <;> cases v
  · rw [show Fl.holdsZ 12 false false false false = false from by decide]; exact ho12f f _ _ w b2 b8 bS
  · rw [show Fl.holdsZ 12 false false false true = true from by decide]; exact ho12f f _ _ w b2 b8 bS
  · rw [show Fl.holdsZ 12 false false true false = false from by decide]; exact ho12f f _ _ w b2 b8 bS
  · rw [show Fl.holdsZ 12 false false true true = true from by decide]; exact ho12f f _ _ w b2 b8 bS
  · rw [show Fl.holdsZ 12 false true false false = true from by decide]; exact ho12f f _ _ w b2 b8 bS
  · rw [show Fl.holdsZ 12 false true false true = false from by decide]; exact ho12f f _ _ w b2 b8 bS
  · rw [show Fl.holdsZ 12 false true true false = true from by decide]; exact ho12f f _ _ w b2 b8 bS
  · rw [show Fl.holdsZ 12 false true true true = false from by decide]; exact ho12f f _ _ w b2 b8 bS
  · rw [show Fl.holdsZ 12 true false false false = true from by decide]; exact ho12t f _ _ w b2 b8 bS
  · rw [show Fl.holdsZ 12 true false false true = true from by decide]; exact ho12t f _ _ w b2 b8 bS
  · rw [show Fl.holdsZ 12 true false true false = true from by decide]; exact ho12t f _ _ w b2 b8 bS
  · rw [show Fl.holdsZ 12 true false true true = true from by decide]; exact ho12t f _ _ w b2 b8 bS
  · rw [show Fl.holdsZ 12 true true false false = true from by decide]; exact ho12t f _ _ w b2 b8 bS
  · rw [show Fl.holdsZ 12 true true false true = true from by decide]; exact ho12t f _ _ w b2 b8 bS
  · rw [show Fl.holdsZ 12 true true true false = true from by decide]; exact ho12t f _ _ w b2 b8 bS
  · rw [show Fl.holdsZ 12 true true true true = true from by decide]; exact ho12t f _ _ w b2 b8 bS
set_option maxHeartbeats 1000000 in
theorem ho13t (f : Nat) (n v : Bool) (w : World) (hn : (bits .and .u32 (f : Int) 2 != 0) = n) (hv : (bits .and .u32 (f : Int) 8 != 0) = v) (hs : (bits .and .u32 (f : Int) 1 != 0) = true) :
    Calls Try.prog 33 #[.int .i64 13, .int .u32 f] w fun e w' => e = .returned (.bool (true == false)) ∧ Below w.heap.size w w' := by
  have c0 : hoC[18]? = some (.int .u32 1) := by kernel_rfl
  have c1 : hoC[19]? = some (.bool true) := by kernel_rfl
  have c2 : hoC[20]? = some (.bool false) := by kernel_rfl
  have zW := (Go.zero_of_info ho_info).1
  go_enter Try.func33, Try.ntmps33
  go_wp2_with (first
    | (refine Gu.wpList_pureAt 9 9 _ _ _ ⟨#[.int .i64 13, .int .u32 f, undef, undef, .bool false, undef, undef, undef, undef, .agg #[.int .u32 8, .bool false, .bool false], .agg #[.int .u32 4, .bool false, .bool false], .agg #[.int .u32 1, .bool false, .bool false], .agg #[.int .u32 5, .bool false, .bool false], .agg #[.int .u32 2, .bool false, .bool false], .agg #[.int .u32 0, .bool true, .bool false], .agg #[.int .u32 1, .bool true, .bool false], .agg #[.int .u32 0, .bool false, .bool true], .agg hoC, undef, undef, undef, undef, undef, undef, undef, undef, undef, undef, undef, undef, undef, undef, undef, undef, undef, undef, undef, undef, undef, undef, undef, undef, undef, undef, undef, undef, undef, undef, undef, undef, undef, undef, undef, undef, undef, undef, undef], []⟩ rfl (by kernel_rfl) ?_; simp only [List.drop_succ_cons, List.drop_zero])
    | (refine Gu.wpList_alloc_as rfl 149 rfl _ zW w.heap.size rfl ?_)
    | (refine wpList_store_row rfl 149 _ _ rfl w.heap.size hoC (by rfl) (by rfl) 149 hoZ (heap_alloc_last w _) (Go.zero_of_info ho_info).2 (by rfl) (by kernel_rfl) ?_; rw [World.setRow_alloc_new]))
  go_ret
  exact ⟨by cases n <;> cases v <;> rfl, wk_bel w _ _⟩
set_option maxHeartbeats 1000000 in
theorem ho13f (f : Nat) (n v : Bool) (w : World) (hn : (bits .and .u32 (f : Int) 2 != 0) = n) (hv : (bits .and .u32 (f : Int) 8 != 0) = v) (hs : (bits .and .u32 (f : Int) 1 != 0) = false) :
    Calls Try.prog 33 #[.int .i64 13, .int .u32 f] w fun e w' => e = .returned (.bool ((n != v) == false)) ∧ Below w.heap.size w w' := by
  have c0 : hoC[18]? = some (.int .u32 1) := by kernel_rfl
  have c1 : hoC[19]? = some (.bool true) := by kernel_rfl
  have c2 : hoC[20]? = some (.bool false) := by kernel_rfl
  have zW := (Go.zero_of_info ho_info).1
  go_enter Try.func33, Try.ntmps33
  go_wp2_with (first
    | (refine Gu.wpList_pureAt 9 9 _ _ _ ⟨#[.int .i64 13, .int .u32 f, undef, undef, .bool false, undef, undef, undef, undef, .agg #[.int .u32 8, .bool false, .bool false], .agg #[.int .u32 4, .bool false, .bool false], .agg #[.int .u32 1, .bool false, .bool false], .agg #[.int .u32 5, .bool false, .bool false], .agg #[.int .u32 2, .bool false, .bool false], .agg #[.int .u32 0, .bool true, .bool false], .agg #[.int .u32 1, .bool true, .bool false], .agg #[.int .u32 0, .bool false, .bool true], .agg hoC, undef, undef, undef, undef, undef, undef, undef, undef, undef, undef, undef, undef, undef, undef, undef, undef, undef, undef, undef, undef, undef, undef, undef, undef, undef, undef, undef, undef, undef, undef, undef, undef, undef, undef, undef, undef, undef, undef, undef], []⟩ rfl (by kernel_rfl) ?_; simp only [List.drop_succ_cons, List.drop_zero])
    | (refine Gu.wpList_alloc_as rfl 149 rfl _ zW w.heap.size rfl ?_)
    | (refine wpList_store_row rfl 149 _ _ rfl w.heap.size hoC (by rfl) (by rfl) 149 hoZ (heap_alloc_last w _) (Go.zero_of_info ho_info).2 (by rfl) (by kernel_rfl) ?_; rw [World.setRow_alloc_new]))
  go_ret
  exact ⟨by cases n <;> cases v <;> rfl, wk_bel w _ _⟩
theorem ph13 (f : Nat) (w : World) (hf : f < 4294967296) : Calls Try.prog 33 #[.int .i64 13, .int .u32 f] w fun e w' => e = .returned (.bool (Fl.holdsF 13 f)) ∧ Below w.heap.size w w' := by
  have b2 := ho_bits f 2 hf (by omega)
  have b8 := ho_bits f 8 hf (by omega)
  have bS := ho_bits f 1 hf (by omega)
  unfold Fl.holdsF
  generalize ((f : Int) % 2 == 1) = z at *
  generalize ((f : Int) / 2 % 2 == 1) = n at *
  generalize ((f : Int) / 4 % 2 == 1) = y at *
  generalize ((f : Int) / 8 % 2 == 1) = v at *
  cases z <;> cases n <;> cases y <;> cases v
  · rw [show Fl.holdsZ 13 false false false false = true from by decide]; exact ho13f f _ _ w b2 b8 bS
  · rw [show Fl.holdsZ 13 false false false true = false from by decide]; exact ho13f f _ _ w b2 b8 bS
  · rw [show Fl.holdsZ 13 false false true false = true from by decide]; exact ho13f f _ _ w b2 b8 bS
  · rw [show Fl.holdsZ 13 false false true true = false from by decide]; exact ho13f f _ _ w b2 b8 bS
  · rw [show Fl.holdsZ 13 false true false false = false from by decide]; exact ho13f f _ _ w b2 b8 bS
  · rw [show Fl.holdsZ 13 false true false true = true from by decide]; exact ho13f f _ _ w b2 b8 bS
  · rw [show Fl.holdsZ 13 false true true false = false from by decide]; exact ho13f f _ _ w b2 b8 bS
  · rw [show Fl.holdsZ 13 false true true true = true from by decide]; exact ho13f f _ _ w b2 b8 bS
  · rw [show Fl.holdsZ 13 true false false false = false from by decide]; exact ho13t f _ _ w b2 b8 bS
  · rw [show Fl.holdsZ 13 true false false true = false from by decide]; exact ho13t f _ _ w b2 b8 bS
  · rw [show Fl.holdsZ 13 true false true false = false from by decide]; exact ho13t f _ _ w b2 b8 bS
  · rw [show Fl.holdsZ 13 true false true true = false from by decide]; exact ho13t f _ _ w b2 b8 bS
  · rw [show Fl.holdsZ 13 true true false false = false from by decide]; exact ho13t f _ _ w b2 b8 bS
  · rw [show Fl.holdsZ 13 true true false true = false from by decide]; exact ho13t f _ _ w b2 b8 bS
  · rw [show Fl.holdsZ 13 true true true false = false from by decide]; exact ho13t f _ _ w b2 b8 bS
  · rw [show Fl.holdsZ 13 true true true true = false from by decide]; exact ho13t f _ _ w b2 b8 bS
set_option maxHeartbeats 1000000 in
theorem ho14f (f : Nat) (n v : Bool) (w : World) (hn : (bits .and .u32 (f : Int) 2 != 0) = n) (hv : (bits .and .u32 (f : Int) 8 != 0) = v) (hs : (bits .and .u32 (f : Int) 0 != 0) = false) :
    Calls Try.prog 33 #[.int .i64 14, .int .u32 f] w fun e w' => e = .returned (.bool (true == true)) ∧ Below w.heap.size w w' := by
  have c0 : hoC[21]? = some (.int .u32 0) := by kernel_rfl
  have c1 : hoC[22]? = some (.bool false) := by kernel_rfl
  have c2 : hoC[23]? = some (.bool true) := by kernel_rfl
  have zW := (Go.zero_of_info ho_info).1
  go_enter Try.func33, Try.ntmps33
  go_wp2_with (first
    | (refine Gu.wpList_pureAt 9 9 _ _ _ ⟨#[.int .i64 14, .int .u32 f, undef, undef, .bool false, undef, undef, undef, undef, .agg #[.int .u32 8, .bool false, .bool false], .agg #[.int .u32 4, .bool false, .bool false], .agg #[.int .u32 1, .bool false, .bool false], .agg #[.int .u32 5, .bool false, .bool false], .agg #[.int .u32 2, .bool false, .bool false], .agg #[.int .u32 0, .bool true, .bool false], .agg #[.int .u32 1, .bool true, .bool false], .agg #[.int .u32 0, .bool false, .bool true], .agg hoC, undef, undef, undef, undef, undef, undef, undef, undef, undef, undef, undef, undef, undef, undef, undef, undef, undef, undef, undef, undef, undef, undef, undef, undef, undef, undef, undef, undef, undef, undef, undef, undef, undef, undef, undef, undef, undef, undef, undef], []⟩ rfl (by kernel_rfl) ?_; simp only [List.drop_succ_cons, List.drop_zero])
    | (refine Gu.wpList_alloc_as rfl 149 rfl _ zW w.heap.size rfl ?_)
    | (refine wpList_store_row rfl 149 _ _ rfl w.heap.size hoC (by rfl) (by rfl) 149 hoZ (heap_alloc_last w _) (Go.zero_of_info ho_info).2 (by rfl) (by kernel_rfl) ?_; rw [World.setRow_alloc_new]))
  go_ret
  exact ⟨by cases n <;> cases v <;> rfl, wk_bel w _ _⟩
theorem ph14 (f : Nat) (w : World) (hf : f < 4294967296) : Calls Try.prog 33 #[.int .i64 14, .int .u32 f] w fun e w' => e = .returned (.bool (Fl.holdsF 14 f)) ∧ Below w.heap.size w w' := by
  have b2 := ho_bits f 2 hf (by omega)
  have b8 := ho_bits f 8 hf (by omega)
  have bS := ho_bits f 0 hf (by omega)
  unfold Fl.holdsF
  generalize ((f : Int) % 2 == 1) = z at *
  generalize ((f : Int) / 2 % 2 == 1) = n at *
  generalize ((f : Int) / 4 % 2 == 1) = y at *
  generalize ((f : Int) / 8 % 2 == 1) = v at *
  cases z <;> cases n <;> cases y <;> cases v
  · rw [show Fl.holdsZ 14 false false false false = true from by decide]; exact ho14f f _ _ w b2 b8 bS
  · rw [show Fl.holdsZ 14 false false false true = true from by decide]; exact ho14f f _ _ w b2 b8 bS
  · rw [show Fl.holdsZ 14 false false true false = true from by decide]; exact ho14f f _ _ w b2 b8 bS
  · rw [show Fl.holdsZ 14 false false true true = true from by decide]; exact ho14f f _ _ w b2 b8 bS
  · rw [show Fl.holdsZ 14 false true false false = true from by decide]; exact ho14f f _ _ w b2 b8 bS
  · rw [show Fl.holdsZ 14 false true false true = true from by decide]; exact ho14f f _ _ w b2 b8 bS
  · rw [show Fl.holdsZ 14 false true true false = true from by decide]; exact ho14f f _ _ w b2 b8 bS
  · rw [show Fl.holdsZ 14 false true true true = true from by decide]; exact ho14f f _ _ w b2 b8 bS
  · rw [show Fl.holdsZ 14 true false false false = true from by decide]; exact ho14f f _ _ w b2 b8 bS
  · rw [show Fl.holdsZ 14 true false false true = true from by decide]; exact ho14f f _ _ w b2 b8 bS
  · rw [show Fl.holdsZ 14 true false true false = true from by decide]; exact ho14f f _ _ w b2 b8 bS
  · rw [show Fl.holdsZ 14 true false true true = true from by decide]; exact ho14f f _ _ w b2 b8 bS
  · rw [show Fl.holdsZ 14 true true false false = true from by decide]; exact ho14f f _ _ w b2 b8 bS
  · rw [show Fl.holdsZ 14 true true false true = true from by decide]; exact ho14f f _ _ w b2 b8 bS
  · rw [show Fl.holdsZ 14 true true true false = true from by decide]; exact ho14f f _ _ w b2 b8 bS
  · rw [show Fl.holdsZ 14 true true true true = true from by decide]; exact ho14f f _ _ w b2 b8 bS
set_option maxHeartbeats 1000000 in
theorem ho15f (f : Nat) (n v : Bool) (w : World) (hn : (bits .and .u32 (f : Int) 2 != 0) = n) (hv : (bits .and .u32 (f : Int) 8 != 0) = v) (hs : (bits .and .u32 (f : Int) 0 != 0) = false) :
    Calls Try.prog 33 #[.int .i64 15, .int .u32 f] w fun e w' => e = .returned (.bool (true == false)) ∧ Below w.heap.size w w' := by
  have c0 : hoC[21]? = some (.int .u32 0) := by kernel_rfl
  have c1 : hoC[22]? = some (.bool false) := by kernel_rfl
  have c2 : hoC[23]? = some (.bool true) := by kernel_rfl
  have zW := (Go.zero_of_info ho_info).1
  go_enter Try.func33, Try.ntmps33
  go_wp2_with (first
    | (refine Gu.wpList_pureAt 9 9 _ _ _ ⟨#[.int .i64 15, .int .u32 f, undef, undef, .bool false, undef, undef, undef, undef, .agg #[.int .u32 8, .bool false, .bool false], .agg #[.int .u32 4, .bool false, .bool false], .agg #[.int .u32 1, .bool false, .bool false], .agg #[.int .u32 5, .bool false, .bool false], .agg #[.int .u32 2, .bool false, .bool false], .agg #[.int .u32 0, .bool true, .bool false], .agg #[.int .u32 1, .bool true, .bool false], .agg #[.int .u32 0, .bool false, .bool true], .agg hoC, undef, undef, undef, undef, undef, undef, undef, undef, undef, undef, undef, undef, undef, undef, undef, undef, undef, undef, undef, undef, undef, undef, undef, undef, undef, undef, undef, undef, undef, undef, undef, undef, undef, undef, undef, undef, undef, undef, undef], []⟩ rfl (by kernel_rfl) ?_; simp only [List.drop_succ_cons, List.drop_zero])
    | (refine Gu.wpList_alloc_as rfl 149 rfl _ zW w.heap.size rfl ?_)
    | (refine wpList_store_row rfl 149 _ _ rfl w.heap.size hoC (by rfl) (by rfl) 149 hoZ (heap_alloc_last w _) (Go.zero_of_info ho_info).2 (by rfl) (by kernel_rfl) ?_; rw [World.setRow_alloc_new]))
  go_ret
  exact ⟨by cases n <;> cases v <;> rfl, wk_bel w _ _⟩
theorem ph15 (f : Nat) (w : World) (hf : f < 4294967296) : Calls Try.prog 33 #[.int .i64 15, .int .u32 f] w fun e w' => e = .returned (.bool (Fl.holdsF 15 f)) ∧ Below w.heap.size w w' := by
  have b2 := ho_bits f 2 hf (by omega)
  have b8 := ho_bits f 8 hf (by omega)
  have bS := ho_bits f 0 hf (by omega)
  unfold Fl.holdsF
  generalize ((f : Int) % 2 == 1) = z at *
  generalize ((f : Int) / 2 % 2 == 1) = n at *
  generalize ((f : Int) / 4 % 2 == 1) = y at *
  generalize ((f : Int) / 8 % 2 == 1) = v at *
  cases z <;> cases n <;> cases y <;> cases v
  · rw [show Fl.holdsZ 15 false false false false = false from by decide]; exact ho15f f _ _ w b2 b8 bS
  · rw [show Fl.holdsZ 15 false false false true = false from by decide]; exact ho15f f _ _ w b2 b8 bS
  · rw [show Fl.holdsZ 15 false false true false = false from by decide]; exact ho15f f _ _ w b2 b8 bS
  · rw [show Fl.holdsZ 15 false false true true = false from by decide]; exact ho15f f _ _ w b2 b8 bS
  · rw [show Fl.holdsZ 15 false true false false = false from by decide]; exact ho15f f _ _ w b2 b8 bS
  · rw [show Fl.holdsZ 15 false true false true = false from by decide]; exact ho15f f _ _ w b2 b8 bS
  · rw [show Fl.holdsZ 15 false true true false = false from by decide]; exact ho15f f _ _ w b2 b8 bS
  · rw [show Fl.holdsZ 15 false true true true = false from by decide]; exact ho15f f _ _ w b2 b8 bS
  · rw [show Fl.holdsZ 15 true false false false = false from by decide]; exact ho15f f _ _ w b2 b8 bS
  · rw [show Fl.holdsZ 15 true false false true = false from by decide]; exact ho15f f _ _ w b2 b8 bS
  · rw [show Fl.holdsZ 15 true false true false = false from by decide]; exact ho15f f _ _ w b2 b8 bS
  · rw [show Fl.holdsZ 15 true false true true = false from by decide]; exact ho15f f _ _ w b2 b8 bS
  · rw [show Fl.holdsZ 15 true true false false = false from by decide]; exact ho15f f _ _ w b2 b8 bS
  · rw [show Fl.holdsZ 15 true true false true = false from by decide]; exact ho15f f _ _ w b2 b8 bS
  · rw [show Fl.holdsZ 15 true true true false = false from by decide]; exact ho15f f _ _ w b2 b8 bS
  · rw [show Fl.holdsZ 15 true true true true = false from by decide]; exact ho15f f _ _ w b2 b8 bS
end Go.Proofs.Ytkgbjpdoigdjnaa
