import Derived.Test.YtkgbjpdoigdjnaaJ32
namespace Go.Proofs.Ytkgbjpdoigdjnaa
open Go.RowKit
set_option maxRecDepth 100000
set_option linter.unusedVariables false
set_option linter.unusedSimpArgs false
set_option maxHeartbeats 1000000 in
theorem ho0t (f : Nat) (n : Bool) (w : World) (hn : (bits .and .u32 (f : Int) 2 != 0) = n) (hs : (bits .and .u32 (f : Int) 8 != 0) = true) :
    Calls Try.prog 33 #[.int .i64 0, .int .u32 f] w fun e w' => e = .returned (.bool (true == true)) ∧ Below w.heap.size w w' := by
  have c0 : hoC[0]? = some (.int .u32 8) := by kernel_rfl
  have c1 : hoC[1]? = some (.bool false) := by kernel_rfl
  have c2 : hoC[2]? = some (.bool false) := by kernel_rfl
  have zW := (Go.zero_of_info ho_info).1
  go_enter Try.func33, Try.ntmps33
  go_wp2_with (first
    | (refine Gu.wpList_pureAt 9 9 _ _ _ ⟨#[.int .i64 0, .int .u32 f, undef, undef, .bool false, undef, undef, undef, undef, .agg #[.int .u32 8, .bool false, .bool false], .agg #[.int .u32 4, .bool false, .bool false], .agg #[.int .u32 1, .bool false, .bool false], .agg #[.int .u32 5, .bool false, .bool false], .agg #[.int .u32 2, .bool false, .bool false], .agg #[.int .u32 0, .bool true, .bool false], .agg #[.int .u32 1, .bool true, .bool false], .agg #[.int .u32 0, .bool false, .bool true], .agg hoC, undef, undef, undef, undef, undef, undef, undef, undef, undef, undef, undef, undef, undef, undef, undef, undef, undef, undef, undef, undef, undef, undef, undef, undef, undef, undef, undef, undef, undef, undef, undef, undef, undef, undef, undef, undef, undef, undef, undef], []⟩ rfl (by kernel_rfl) ?_; simp only [List.drop_succ_cons, List.drop_zero])
    | (refine Gu.wpList_alloc_as rfl 149 rfl _ zW w.heap.size rfl ?_)
    | (refine wpList_store_row rfl 149 _ _ rfl w.heap.size hoC (by rfl) (by rfl) 149 hoZ (heap_alloc_last w _) (Go.zero_of_info ho_info).2 (by rfl) (by kernel_rfl) ?_; rw [World.setRow_alloc_new]))
  go_ret
  exact ⟨by cases n <;> rfl, wk_bel w _ _⟩
set_option maxHeartbeats 1000000 in
theorem ho0f (f : Nat) (n : Bool) (w : World) (hn : (bits .and .u32 (f : Int) 2 != 0) = n) (hs : (bits .and .u32 (f : Int) 8 != 0) = false) :
    Calls Try.prog 33 #[.int .i64 0, .int .u32 f] w fun e w' => e = .returned (.bool (false == true)) ∧ Below w.heap.size w w' := by
  have c0 : hoC[0]? = some (.int .u32 8) := by kernel_rfl
  have c1 : hoC[1]? = some (.bool false) := by kernel_rfl
  have c2 : hoC[2]? = some (.bool false) := by kernel_rfl
  have zW := (Go.zero_of_info ho_info).1
  go_enter Try.func33, Try.ntmps33
  go_wp2_with (first
    | (refine Gu.wpList_pureAt 9 9 _ _ _ ⟨#[.int .i64 0, .int .u32 f, undef, undef, .bool false, undef, undef, undef, undef, .agg #[.int .u32 8, .bool false, .bool false], .agg #[.int .u32 4, .bool false, .bool false], .agg #[.int .u32 1, .bool false, .bool false], .agg #[.int .u32 5, .bool false, .bool false], .agg #[.int .u32 2, .bool false, .bool false], .agg #[.int .u32 0, .bool true, .bool false], .agg #[.int .u32 1, .bool true, .bool false], .agg #[.int .u32 0, .bool false, .bool true], .agg hoC, undef, undef, undef, undef, undef, undef, undef, undef, undef, undef, undef, undef, undef, undef, undef, undef, undef, undef, undef, undef, undef, undef, undef, undef, undef, undef, undef, undef, undef, undef, undef, undef, undef, undef, undef, undef, undef, undef, undef], []⟩ rfl (by kernel_rfl) ?_; simp only [List.drop_succ_cons, List.drop_zero])
    | (refine Gu.wpList_alloc_as rfl 149 rfl _ zW w.heap.size rfl ?_)
    | (refine wpList_store_row rfl 149 _ _ rfl w.heap.size hoC (by rfl) (by rfl) 149 hoZ (heap_alloc_last w _) (Go.zero_of_info ho_info).2 (by rfl) (by kernel_rfl) ?_; rw [World.setRow_alloc_new]))
  go_ret
  exact ⟨by cases n <;> rfl, wk_bel w _ _⟩
theorem ph0 (f : Nat) (w : World) (hf : f < 4294967296) : Calls Try.prog 33 #[.int .i64 0, .int .u32 f] w fun e w' => e = .returned (.bool (Fl.holdsF 0 f)) ∧ Below w.heap.size w w' := by
  have b2 := ho_bits f 2 hf (by omega)
  have b8 := ho_bits f 8 hf (by omega)
  have bS := ho_bits f 8 hf (by omega)
  unfold Fl.holdsF
  generalize ((f : Int) % 2 == 1) = z at *
  generalize ((f : Int) / 2 % 2 == 1) = n at *
  generalize ((f : Int) / 4 % 2 == 1) = y at *
  generalize ((f : Int) / 8 % 2 == 1) = v at *
  cases z <;> cases n <;> cases y <;> cases v
  · rw [show Fl.holdsZ 0 false false false false = false from by decide]; exact ho0f f _ w b2 bS
  · rw [show Fl.holdsZ 0 false false false true = true from by decide]; exact ho0t f _ w b2 bS
  · rw [show Fl.holdsZ 0 false false true false = false from by decide]; exact ho0f f _ w b2 bS
  · rw [show Fl.holdsZ 0 false false true true = true from by decide]; exact ho0t f _ w b2 bS
  · rw [show Fl.holdsZ 0 false true false false = false from by decide]; exact ho0f f _ w b2 bS
  · rw [show Fl.holdsZ 0 false true false true = true from by decide]; exact ho0t f _ w b2 bS
  · rw [show Fl.holdsZ 0 false true true false = false from by decide]; exact ho0f f _ w b2 bS
  · rw [show Fl.holdsZ 0 false true true true = true from by decide]; exact ho0t f _ w b2 bS
  · rw [show Fl.holdsZ 0 true false false false = false from by decide]; exact ho0f f _ w b2 bS
  · rw [show Fl.holdsZ 0 true false false true = true from by decide]; exact ho0t f _ w b2 bS
  · rw [show Fl.holdsZ 0 true false true false = false from by decide]; exact ho0f f _ w b2 bS
  · rw [show Fl.holdsZ 0 true false true true = true from by decide]; exact ho0t f _ w b2 bS
  · rw [show Fl.holdsZ 0 true true false false = false from by decide]; exact ho0f f _ w b2 bS
  · rw [show Fl.holdsZ 0 true true false true = true from by decide]; exact ho0t f _ w b2 bS
  · rw [show Fl.holdsZ 0 true true true false = false from by decide]; exact ho0f f _ w b2 bS
  · rw [show Fl.holdsZ 0 true true true true = true from by decide]; exact ho0t f _ w b2 bS
set_option maxHeartbeats 1000000 in
theorem ho1t (f : Nat) (n : Bool) (w : World) (hn : (bits .and .u32 (f : Int) 2 != 0) = n) (hs : (bits .and .u32 (f : Int) 8 != 0) = true) :
    Calls Try.prog 33 #[.int .i64 1, .int .u32 f] w fun e w' => e = .returned (.bool (true == false)) ∧ Below w.heap.size w w' := by
  have c0 : hoC[0]? = some (.int .u32 8) := by kernel_rfl
  have c1 : hoC[1]? = some (.bool false) := by kernel_rfl
  have c2 : hoC[2]? = some (.bool false) := by kernel_rfl
  have zW := (Go.zero_of_info ho_info).1
  go_enter Try.func33, Try.ntmps33
  go_wp2_with (first
    | (refine Gu.wpList_pureAt 9 9 _ _ _ ⟨#[.int .i64 1, .int .u32 f, undef, undef, .bool false, undef, undef, undef, undef, .agg #[.int .u32 8, .bool false, .bool false], .agg #[.int .u32 4, .bool false, .bool false], .agg #[.int .u32 1, .bool false, .bool false], .agg #[.int .u32 5, .bool false, .bool false], .agg #[.int .u32 2, .bool false, .bool false], .agg #[.int .u32 0, .bool true, .bool false], .agg #[.int .u32 1, .bool true, .bool false], .agg #[.int .u32 0, .bool false, .bool true], .agg hoC, undef, undef, undef, undef, undef, undef, undef, undef, undef, undef, undef, undef, undef, undef, undef, undef, undef, undef, undef, undef, undef, undef, undef, undef, undef, undef, undef, undef, undef, undef, undef, undef, undef, undef, undef, undef, undef, undef, undef], []⟩ rfl (by kernel_rfl) ?_; simp only [List.drop_succ_cons, List.drop_zero])
    | (refine Gu.wpList_alloc_as rfl 149 rfl _ zW w.heap.size rfl ?_)
    | (refine wpList_store_row rfl 149 _ _ rfl w.heap.size hoC (by rfl) (by rfl) 149 hoZ (heap_alloc_last w _) (Go.zero_of_info ho_info).2 (by rfl) (by kernel_rfl) ?_; rw [World.setRow_alloc_new]))
  go_ret
  exact ⟨by cases n <;> rfl, wk_bel w _ _⟩
set_option maxHeartbeats 1000000 in
theorem ho1f (f : Nat) (n : Bool) (w : World) (hn : (bits .and .u32 (f : Int) 2 != 0) = n) (hs : (bits .and .u32 (f : Int) 8 != 0) = false) :
    Calls Try.prog 33 #[.int .i64 1, .int .u32 f] w fun e w' => e = .returned (.bool (false == false)) ∧ Below w.heap.size w w' := by
  have c0 : hoC[0]? = some (.int .u32 8) := by kernel_rfl
  have c1 : hoC[1]? = some (.bool false) := by kernel_rfl
  have c2 : hoC[2]? = some (.bool false) := by kernel_rfl
  have zW := (Go.zero_of_info ho_info).1
  go_enter Try.func33, Try.ntmps33
  go_wp2_with (first
    | (refine Gu.wpList_pureAt 9 9 _ _ _ ⟨#[.int .i64 1, .int .u32 f, undef, undef, .bool false, undef, undef, undef, undef, .agg #[.int .u32 8, .bool false, .bool false], .agg #[.int .u32 4, .bool false, .bool false], .agg #[.int .u32 1, .bool false, .bool false], .agg #[.int .u32 5, .bool false, .bool false], .agg #[.int .u32 2, .bool false, .bool false], .agg #[.int .u32 0, .bool true, .bool false], .agg #[.int .u32 1, .bool true, .bool false], .agg #[.int .u32 0, .bool false, .bool true], .agg hoC, undef, undef, undef, undef, undef, undef, undef, undef, undef, undef, undef, undef, undef, undef, undef, undef, undef, undef, undef, undef, undef, undef, undef, undef, undef, undef, undef, undef, undef, undef, undef, undef, undef, undef, undef, undef, undef, undef, undef], []⟩ rfl (by kernel_rfl) ?_; simp only [List.drop_succ_cons, List.drop_zero])
    | (refine Gu.wpList_alloc_as rfl 149 rfl _ zW w.heap.size rfl ?_)
    | (refine wpList_store_row rfl 149 _ _ rfl w.heap.size hoC (by rfl) (by rfl) 149 hoZ (heap_alloc_last w _) (Go.zero_of_info ho_info).2 (by rfl) (by kernel_rfl) ?_; rw [World.setRow_alloc_new]))
  go_ret
  exact ⟨by cases n <;> rfl, wk_bel w _ _⟩
theorem ph1 (f : Nat) (w : World) (hf : f < 4294967296) : Calls Try.prog 33 #[.int .i64 1, .int .u32 f] w fun e w' => e = .returned (.bool (Fl.holdsF 1 f)) ∧ Below w.heap.size w w' := by
  have b2 := ho_bits f 2 hf (by omega)
  have b8 := ho_bits f 8 hf (by omega)
  have bS := ho_bits f 8 hf (by omega)
  unfold Fl.holdsF
  generalize ((f : Int) % 2 == 1) = z at *
  generalize ((f : Int) / 2 % 2 == 1) = n at *
  generalize ((f : Int) / 4 % 2 == 1) = y at *
  generalize ((f : Int) / 8 % 2 == 1) = v at *
  cases z <;> cases n <;> cases y <;> cases v
  · rw [show Fl.holdsZ 1 false false false false = true from by decide]; exact ho1f f _ w b2 bS
  · rw [show Fl.holdsZ 1 false false false true = false from by decide]; exact ho1t f _ w b2 bS
  · rw [show Fl.holdsZ 1 false false true false = true from by decide]; exact ho1f f _ w b2 bS
  · rw [show Fl.holdsZ 1 false false true true = false from by decide]; exact ho1t f _ w b2 bS
  · rw [show Fl.holdsZ 1 false true false false = true from by decide]; exact ho1f f _ w b2 bS
  · rw [show Fl.holdsZ 1 false true false true = false from by decide]; exact ho1t f _ w b2 bS
  · rw [show Fl.holdsZ 1 false true true false = true from by decide]; exact ho1f f _ w b2 bS
  · rw [show Fl.holdsZ 1 false true true true = false from by decide]; exact ho1t f _ w b2 bS
  · rw [show Fl.holdsZ 1 true false false false = true from by decide]; exact ho1f f _ w b2 bS
  · rw [show Fl.holdsZ 1 true false false true = false from by decide]; exact ho1t f _ w b2 bS
  · rw [show Fl.holdsZ 1 true false true false = true from by decide]; exact ho1f f _ w b2 bS
  · rw [show Fl.holdsZ 1 true false true true = false from by decide]; exact ho1t f _ w b2 bS
  · rw [show Fl.holdsZ 1 true true false false = true from by decide]; exact ho1f f _ w b2 bS
  · rw [show Fl.holdsZ 1 true true false true = false from by decide]; exact ho1t f _ w b2 bS
  · rw [show Fl.holdsZ 1 true true true false = true from by decide]; exact ho1f f _ w b2 bS
  · rw [show Fl.holdsZ 1 true true true true = false from by decide]; exact ho1t f _ w b2 bS
set_option maxHeartbeats 1000000 in
theorem ho2t (f : Nat) (n v : Bool) (w : World) (hn : (bits .and .u32 (f : Int) 2 != 0) = n) (hv : (bits .and .u32 (f : Int) 8 != 0) = v) (hs : (bits .and .u32 (f : Int) 4 != 0) = true) :
    Calls Try.prog 33 #[.int .i64 2, .int .u32 f] w fun e w' => e = .returned (.bool (true == true)) ∧ Below w.heap.size w w' := by
  have c0 : hoC[3]? = some (.int .u32 4) := by kernel_rfl
  have c1 : hoC[4]? = some (.bool false) := by kernel_rfl
  have c2 : hoC[5]? = some (.bool false) := by kernel_rfl
  have zW := (Go.zero_of_info ho_info).1
  go_enter Try.func33, Try.ntmps33
  go_wp2_with (first
    | (refine Gu.wpList_pureAt 9 9 _ _ _ ⟨#[.int .i64 2, .int .u32 f, undef, undef, .bool false, undef, undef, undef, undef, .agg #[.int .u32 8, .bool false, .bool false], .agg #[.int .u32 4, .bool false, .bool false], .agg #[.int .u32 1, .bool false, .bool false], .agg #[.int .u32 5, .bool false, .bool false], .agg #[.int .u32 2, .bool false, .bool false], .agg #[.int .u32 0, .bool true, .bool false], .agg #[.int .u32 1, .bool true, .bool false], .agg #[.int .u32 0, .bool false, .bool true], .agg hoC, undef, undef, undef, undef, undef, undef, undef, undef, undef, undef, undef, undef, undef, undef, undef, undef, undef, undef, undef, undef, undef, undef, undef, undef, undef, undef, undef, undef, undef, undef, undef, undef, undef, undef, undef, undef, undef, undef, undef], []⟩ rfl (by kernel_rfl) ?_; simp only [List.drop_succ_cons, List.drop_zero])
    | (refine Gu.wpList_alloc_as rfl 149 rfl _ zW w.heap.size rfl ?_)
    | (refine wpList_store_row rfl 149 _ _ rfl w.heap.size hoC (by rfl) (by rfl) 149 hoZ (heap_alloc_last w _) (Go.zero_of_info ho_info).2 (by rfl) (by kernel_rfl) ?_; rw [World.setRow_alloc_new]))
  go_ret
  exact ⟨by cases n <;> cases v <;> rfl, wk_bel w _ _⟩
set_option maxHeartbeats 1000000 in
theorem ho2f (f : Nat) (n v : Bool) (w : World) (hn : (bits .and .u32 (f : Int) 2 != 0) = n) (hv : (bits .and .u32 (f : Int) 8 != 0) = v) (hs : (bits .and .u32 (f : Int) 4 != 0) = false) :
    Calls Try.prog 33 #[.int .i64 2, .int .u32 f] w fun e w' => e = .returned (.bool (false == true)) ∧ Below w.heap.size w w' := by
  have c0 : hoC[3]? = some (.int .u32 4) := by kernel_rfl
  have c1 : hoC[4]? = some (.bool false) := by kernel_rfl
  have c2 : hoC[5]? = some (.bool false) := by kernel_rfl
  have zW := (Go.zero_of_info ho_info).1
  go_enter Try.func33, Try.ntmps33
  go_wp2_with (first
    | (refine Gu.wpList_pureAt 9 9 _ _ _ ⟨#[.int .i64 2, .int .u32 f, undef, undef, .bool false, undef, undef, undef, undef, .agg #[.int .u32 8, .bool false, .bool false], .agg #[.int .u32 4, .bool false, .bool false], .agg #[.int .u32 1, .bool false, .bool false], .agg #[.int .u32 5, .bool false, .bool false], .agg #[.int .u32 2, .bool false, .bool false], .agg #[.int .u32 0, .bool true, .bool false], .agg #[.int .u32 1, .bool true, .bool false], .agg #[.int .u32 0, .bool false, .bool true], .agg hoC, undef, undef, undef, undef, undef, undef, undef, undef, undef, undef, undef, undef, undef, undef, undef, undef, undef, undef, undef, undef, undef, undef, undef, undef, undef, undef, undef, undef, undef, undef, undef, undef, undef, undef, undef, undef, undef, undef, undef], []⟩ rfl (by kernel_rfl) ?_; simp only [List.drop_succ_cons, List.drop_zero])
    | (refine Gu.wpList_alloc_as rfl 149 rfl _ zW w.heap.size rfl ?_)
    | (refine wpList_store_row rfl 149 _ _ rfl w.heap.size hoC (by rfl) (by rfl) 149 hoZ (heap_alloc_last w _) (Go.zero_of_info ho_info).2 (by rfl) (by kernel_rfl) ?_; rw [World.setRow_alloc_new]))
  go_ret
  exact ⟨by cases n <;> cases v <;> rfl, wk_bel w _ _⟩
theorem ph2 (f : Nat) (w : World) (hf : f < 4294967296) : Calls Try.prog 33 #[.int .i64 2, .int .u32 f] w fun e w' => e = .returned (.bool (Fl.holdsF 2 f)) ∧ Below w.heap.size w w' := by
  have b2 := ho_bits f 2 hf (by omega)
  have b8 := ho_bits f 8 hf (by omega)
  have bS := ho_bits f 4 hf (by omega)
  unfold Fl.holdsF
  generalize ((f : Int) % 2 == 1) = z at *
  generalize ((f : Int) / 2 % 2 == 1) = n at *
  generalize ((f : Int) / 4 % 2 == 1) = y at *
  generalize ((f : Int) / 8 % 2 == 1) = v at *
  cases z <;> cases n <;> cases y <;> cases v
  · rw [show Fl.holdsZ 2 false false false false = false from by decide]; exact ho2f f _ _ w b2 b8 bS
  · rw [show Fl.holdsZ 2 false false false true = false from by decide]; exact ho2f f _ _ w b2 b8 bS
  · rw [show Fl.holdsZ 2 false false true false = true from by decide]; exact ho2t f _ _ w b2 b8 bS
  · rw [show Fl.holdsZ 2 false false true true = true from by decide]; exact ho2t f _ _ w b2 b8 bS
  · rw [show Fl.holdsZ 2 false true false false = false from by decide]; exact ho2f f _ _ w b2 b8 bS
  · rw [show Fl.holdsZ 2 false true false true = false from by decide]; exact ho2f f _ _ w b2 b8 bS
  · rw [show Fl.holdsZ 2 false true true false = true from by decide]; exact ho2t f _ _ w b2 b8 bS
  · rw [show Fl.holdsZ 2 false true true true = true from by decide]; exact ho2t f _ _ w b2 b8 bS
  · rw [show Fl.holdsZ 2 true false false false = false from by decide]; exact ho2f f _ _ w b2 b8 bS
  · rw [show Fl.holdsZ 2 true false false true = false from by decide]; exact ho2f f _ _ w b2 b8 bS
  · rw [show Fl.holdsZ 2 true false true false = true from by decide]; exact ho2t f _ _ w b2 b8 bS
  · rw [show Fl.holdsZ 2 true false true true = true from by decide]; exact ho2t f _ _ w b2 b8 bS
  · rw [show Fl.holdsZ 2 true true false false = false from by decide]; exact ho2f f _ _ w b2 b8 bS
  · rw [show Fl.holdsZ 2 true true false true = false from by decide]; exact ho2f f _ _ w b2 b8 bS
  · rw [show Fl.holdsZ 2 true true true false = true from by decide]; exact ho2t f _ _ w b2 b8 bS
  · rw [show Fl.holdsZ 2 true true true true = true from by decide]; exact ho2t f _ _ w b2 b8 bS
set_option maxHeartbeats 1000000 in
theorem ho3t (f : Nat) (n v : Bool) (w : World) (hn : (bits .and .u32 (f : Int) 2 != 0) = n) (hv : (bits .and .u32 (f : Int) 8 != 0) = v) (hs : (bits .and .u32 (f : Int) 4 != 0) = true) :
    Calls Try.prog 33 #[.int .i64 3, .int .u32 f] w fun e w' => e = .returned (.bool (true == false)) ∧ Below w.heap.size w w' := by
  have c0 : hoC[3]? = some (.int .u32 4) := by kernel_rfl
  have c1 : hoC[4]? = some (.bool false) := by kernel_rfl
  have c2 : hoC[5]? = some (.bool false) := by kernel_rfl
  have zW := (Go.zero_of_info ho_info).1
  go_enter Try.func33, Try.ntmps33
  go_wp2_with (first
    | (refine Gu.wpList_pureAt 9 9 _ _ _ ⟨#[.int .i64 3, .int .u32 f, undef, undef, .bool false, undef, undef, undef, undef, .agg #[.int .u32 8, .bool false, .bool false], .agg #[.int .u32 4, .bool false, .bool false], .agg #[.int .u32 1, .bool false, .bool false], .agg #[.int .u32 5, .bool false, .bool false], .agg #[.int .u32 2, .bool false, .bool false], .agg #[.int .u32 0, .bool true, .bool false], .agg #[.int .u32 1, .bool true, .bool false], .agg #[.int .u32 0, .bool false, .bool true], .agg hoC, undef, undef, undef, undef, undef, undef, undef, undef, undef, undef, undef, undef, undef, undef, undef, undef, undef, undef, undef, undef, undef, undef, undef, undef, undef, undef, undef, undef, undef, undef, undef, undef, undef, undef, undef, undef, undef, undef, undef], []⟩ rfl (by kernel_rfl) ?_; simp only [List.drop_succ_cons, List.drop_zero])
    | (refine Gu.wpList_alloc_as rfl 149 rfl _ zW w.heap.size rfl ?_)
    | (refine wpList_store_row rfl 149 _ _ rfl w.heap.size hoC (by rfl) (by rfl) 149 hoZ (heap_alloc_last w _) (Go.zero_of_info ho_info).2 (by rfl) (by kernel_rfl) ?_; rw [World.setRow_alloc_new]))
  go_ret
  exact ⟨by cases n <;> cases v <;> rfl, wk_bel w _ _⟩
set_option maxHeartbeats 1000000 in
theorem ho3f (f : Nat) (n v : Bool) (w : World) (hn : (bits .and .u32 (f : Int) 2 != 0) = n) (hv : (bits .and .u32 (f : Int) 8 != 0) = v) (hs : (bits .and .u32 (f : Int) 4 != 0) = false) :
    Calls Try.prog 33 #[.int .i64 3, .int .u32 f] w fun e w' => e = .returned (.bool (false == false)) ∧ Below w.heap.size w w' := by
  have c0 : hoC[3]? = some (.int .u32 4) := by kernel_rfl
  have c1 : hoC[4]? = some (.bool false) := by kernel_rfl
  have c2 : hoC[5]? = some (.bool false) := by kernel_rfl
  have zW := (Go.zero_of_info ho_info).1
  go_enter Try.func33, Try.ntmps33
  go_wp2_with (first
    | (refine Gu.wpList_pureAt 9 9 _ _ _ ⟨#[.int .i64 3, .int .u32 f, undef, undef, .bool false, undef, undef, undef, undef, .agg #[.int .u32 8, .bool false, .bool false], .agg #[.int .u32 4, .bool false, .bool false], .agg #[.int .u32 1, .bool false, .bool false], .agg #[.int .u32 5, .bool false, .bool false], .agg #[.int .u32 2, .bool false, .bool false], .agg #[.int .u32 0, .bool true, .bool false], .agg #[.int .u32 1, .bool true, .bool false], .agg #[.int .u32 0, .bool false, .bool true], .agg hoC, undef, undef, undef, undef, undef, undef, undef, undef, undef, undef, undef, undef, undef, undef, undef, undef, undef, undef, undef, undef, undef, undef, undef, undef, undef, undef, undef, undef, undef, undef, undef, undef, undef, undef, undef, undef, undef, undef, undef], []⟩ rfl (by kernel_rfl) ?_; simp only [List.drop_succ_cons, List.drop_zero])
    | (refine Gu.wpList_alloc_as rfl 149 rfl _ zW w.heap.size rfl ?_)
    | (refine wpList_store_row rfl 149 _ _ rfl w.heap.size hoC (by rfl) (by rfl) 149 hoZ (heap_alloc_last w _) (Go.zero_of_info ho_info).2 (by rfl) (by kernel_rfl) ?_; rw [World.setRow_alloc_new]))
  go_ret
  exact ⟨by cases n <;> cases v <;> rfl, wk_bel w _ _⟩
theorem ph3 (f : Nat) (w : World) (hf : f < 4294967296) : Calls Try.prog 33 #[.int .i64 3, .int .u32 f] w fun e w' => e = .returned (.bool (Fl.holdsF 3 f)) ∧ Below w.heap.size w w' := by
  have b2 := ho_bits f 2 hf (by omega)
  have b8 := ho_bits f 8 hf (by omega)
  have bS := ho_bits f 4 hf (by omega)
  unfold Fl.holdsF
  generalize ((f : Int) % 2 == 1) = z at *
  generalize ((f : Int) / 2 % 2 == 1) = n at *
  generalize ((f : Int) / 4 % 2 == 1) = y at *
  generalize ((f : Int) / 8 % 2 == 1) = v at *
  cases z <;> cases n <;> cases y <;> cases v
  · rw [show Fl.holdsZ 3 false false false false = true from by decide]; exact ho3f f _ _ w b2 b8 bS
  · rw [show Fl.holdsZ 3 false false false true = true from by decide]; exact ho3f f _ _ w b2 b8 bS
  · rw [show Fl.holdsZ 3 false false true false = false from by decide]; exact ho3t f _ _ w b2 b8 bS
  · rw [show Fl.holdsZ 3 false false true true = false from by decide]; exact ho3t f _ _ w b2 b8 bS
  · rw [show Fl.holdsZ 3 false true false false = true from by decide]; exact ho3f f _ _ w b2 b8 bS
  · rw [show Fl.holdsZ 3 false true false true = true from by decide]; exact ho3f f _ _ w b2 b8 bS
  · rw [show Fl.holdsZ 3 false true true false = false from by decide]; exact ho3t f _ _ w b2 b8 bS
  · rw [show Fl.holdsZ 3 false true true true = false from by decide]; exact ho3t f _ _ w b2 b8 bS
  · rw [show Fl.holdsZ 3 true false false false = true from by decide]; exact ho3f f _ _ w b2 b8 bS
  · rw [show Fl.holdsZ 3 true false false true = true from by decide]; exact ho3f f _ _ w b2 b8 bS
  · rw [show Fl.holdsZ 3 true false true false = false from by decide]; exact ho3t f _ _ w b2 b8 bS
  · rw [show Fl.holdsZ 3 true false true true = false from by decide]; exact ho3t f _ _ w b2 b8 bS
  · rw [show Fl.holdsZ 3 true true false false = true from by decide]; exact ho3f f _ _ w b2 b8 bS
  · rw [show Fl.holdsZ 3 true true false true = true from by decide]; exact ho3f f _ _ w b2 b8 bS
  · rw [show Fl.holdsZ 3 true true true false = false from by decide]; exact ho3t f _ _ w b2 b8 bS
  · rw [show Fl.holdsZ 3 true true true true = false from by decide]; exact ho3t f _ _ w b2 b8 bS
end Go.Proofs.Ytkgbjpdoigdjnaa

namespace Go.Proofs.Ytkgbjpdoigdjnaa
open Go.RowKit
set_option maxRecDepth 100000
set_option linter.unusedVariables false
set_option linter.unusedSimpArgs false
set_option maxHeartbeats 1000000 in
theorem ho4t (f : Nat) (n v : Bool) (w : World) (hn : (bits .and .u32 (f : Int) 2 != 0) = n) (hv : (bits .and .u32 (f : Int) 8 != 0) = v) (hs : (bits .and .u32 (f : Int) 1 != 0) = true) :
    Calls Try.prog 33 #[.int .i64 4, .int .u32 f] w fun e w' => e = .returned (.bool (true == true)) ∧ Below w.heap.size w w' := by
  have c0 : hoC[6]? = some (.int .u32 1) := by kernel_rfl
  have c1 : hoC[7]? = some (.bool false) := by kernel_rfl
  have c2 : hoC[8]? = some (.bool false) := by kernel_rfl
  have zW := (Go.zero_of_info ho_info).1
  go_enter Try.func33, Try.ntmps33
  go_wp2_with (first
    | (refine Gu.wpList_pureAt 9 9 _ _ _ ⟨#[.int .i64 4, .int .u32 f, undef, undef, .bool false, undef, undef, undef, undef, .agg #[.int .u32 8, .bool false, .bool false], .agg #[.int .u32 4, .bool false, .bool false], .agg #[.int .u32 1, .bool false, .bool false], .agg #[.int .u32 5, .bool false, .bool false], .agg #[.int .u32 2, .bool false, .bool false], .agg #[.int .u32 0, .bool true, .bool false], .agg #[.int .u32 1, .bool true, .bool false], .agg #[.int .u32 0, .bool false, .bool true], .agg hoC, undef, undef, undef, undef, undef, undef, undef, undef, undef, undef, undef, undef, undef, undef, undef, undef, undef, undef, undef, undef, undef, undef, undef, undef, undef, undef, undef, undef, undef, undef, undef, undef, undef, undef, undef, undef, undef, undef, undef], []⟩ rfl (by kernel_rfl) ?_; simp only [List.drop_succ_cons, List.drop_zero])
    | (refine Gu.wpList_alloc_as rfl 149 rfl _ zW w.heap.size rfl ?_)
    | (refine wpList_store_row rfl 149 _ _ rfl w.heap.size hoC (by rfl) (by rfl) 149 hoZ (heap_alloc_last w _) (Go.zero_of_info ho_info).2 (by rfl) (by kernel_rfl) ?_; rw [World.setRow_alloc_new]))
  go_ret
  exact ⟨by cases n <;> cases v <;> rfl, wk_bel w _ _⟩
set_option maxHeartbeats 1000000 in
theorem ho4f (f : Nat) (n v : Bool) (w : World) (hn : (bits .and .u32 (f : Int) 2 != 0) = n) (hv : (bits .and .u32 (f : Int) 8 != 0) = v) (hs : (bits .and .u32 (f : Int) 1 != 0) = false) :
    Calls Try.prog 33 #[.int .i64 4, .int .u32 f] w fun e w' => e = .returned (.bool (false == true)) ∧ Below w.heap.size w w' := by
  have c0 : hoC[6]? = some (.int .u32 1) := by kernel_rfl
  have c1 : hoC[7]? = some (.bool false) := by kernel_rfl
  have c2 : hoC[8]? = some (.bool false) := by kernel_rfl
  have zW := (Go.zero_of_info ho_info).1
  go_enter Try.func33, Try.ntmps33
  go_wp2_with (first
    | (refine Gu.wpList_pureAt 9 9 _ _ _ ⟨#[.int .i64 4, .int .u32 f, undef, undef, .bool false, undef, undef, undef, undef, .agg #[.int .u32 8, .bool false, .bool false], .agg #[.int .u32 4, .bool false, .bool false], .agg #[.int .u32 1, .bool false, .bool false], .agg #[.int .u32 5, .bool false, .bool false], .agg #[.int .u32 2, .bool false, .bool false], .agg #[.int .u32 0, .bool true, .bool false], .agg #[.int .u32 1, .bool true, .bool false], .agg #[.int .u32 0, .bool false, .bool true], .agg hoC, undef, undef, undef, undef, undef, undef, undef, undef, undef, undef, undef, undef, undef, undef, undef, undef, undef, undef, undef, undef, undef, undef, undef, undef, undef, undef, undef, undef, undef, undef, undef, undef, undef, undef, undef, undef, undef, undef, undef], []⟩ rfl (by kernel_rfl) ?_; simp only [List.drop_succ_cons, List.drop_zero])
    | (refine Gu.wpList_alloc_as rfl 149 rfl _ zW w.heap.size rfl ?_)
    | (refine wpList_store_row rfl 149 _ _ rfl w.heap.size hoC (by rfl) (by rfl) 149 hoZ (heap_alloc_last w _) (Go.zero_of_info ho_info).2 (by rfl) (by kernel_rfl) ?_; rw [World.setRow_alloc_new]))
  go_ret
  exact ⟨by cases n <;> cases v <;> rfl, wk_bel w _ _⟩
theorem ph4 (f : Nat) (w : World) (hf : f < 4294967296) : Calls Try.prog 33 #[.int .i64 4, .int .u32 f] w fun e w' => e = .returned (.bool (Fl.holdsF 4 f)) ∧ Below w.heap.size w w' := by
  have b2 := ho_bits f 2 hf (by omega)
  have b8 := ho_bits f 8 hf (by omega)
  have bS := ho_bits f 1 hf (by omega)
  unfold Fl.holdsF
  generalize ((f : Int) % 2 == 1) = z at *
  generalize ((f : Int) / 2 % 2 == 1) = n at *
  generalize ((f : Int) / 4 % 2 == 1) = y at *
  generalize ((f : Int) / 8 % 2 == 1) = v at *
  cases z <;> cases n <;> cases y <;> cases v
  · rw [show Fl.holdsZ 4 false false false false = false from by decide]; exact ho4f f _ _ w b2 b8 bS
  · rw [show Fl.holdsZ 4 false false false true = false from by decide]; exact ho4f f _ _ w b2 b8 bS
  · rw [show Fl.holdsZ 4 false false true false = false from by decide]; exact ho4f f _ _ w b2 b8 bS
  · rw [show Fl.holdsZ 4 false false true true = false from by decide]; exact ho4f f _ _ w b2 b8 bS
  · rw [show Fl.holdsZ 4 false true false false = false from by decide]; exact ho4f f _ _ w b2 b8 bS
  · rw [show Fl.holdsZ 4 false true false true = false from by decide]; exact ho4f f _ _ w b2 b8 bS
  · rw [show Fl.holdsZ 4 false true true false = false from by decide]; exact ho4f f _ _ w b2 b8 bS
  · rw [show Fl.holdsZ 4 false true true true = false from by decide]; exact ho4f f _ _ w b2 b8 bS
  · rw [show Fl.holdsZ 4 true false false false = true from by decide]; exact ho4t f _ _ w b2 b8 bS
  · rw [show Fl.holdsZ 4 true false false true = true from by decide]; exact ho4t f _ _ w b2 b8 bS
  · rw [show Fl.holdsZ 4 true false true false = true from by decide]; exact ho4t f _ _ w b2 b8 bS
  · rw [show Fl.holdsZ 4 true false true true = true from by decide]; exact ho4t f _ _ w b2 b8 bS
  · rw [show Fl.holdsZ 4 true true false false = true from by decide]; exact ho4t f _ _ w b2 b8 bS
  · rw [show Fl.holdsZ 4 true true false true = true from by decide]; exact ho4t f _ _ w b2 b8 bS
  · rw [show Fl.holdsZ 4 true true true false = true from by decide]; exact ho4t f _ _ w b2 b8 bS
  · rw [show Fl.holdsZ 4 true true true true = true from by decide]; exact ho4t f _ _ w b2 b8 bS
set_option maxHeartbeats 1000000 in
theorem ho5t (f : Nat) (n v : Bool) (w : World) (hn : (bits .and .u32 (f : Int) 2 != 0) = n) (hv : (bits .and .u32 (f : Int) 8 != 0) = v) (hs : (bits .and .u32 (f : Int) 1 != 0) = true) :
    Calls Try.prog 33 #[.int .i64 5, .int .u32 f] w fun e w' => e = .returned (.bool (true == false)) ∧ Below w.heap.size w w' := by
  have c0 : hoC[6]? = some (.int .u32 1) := by kernel_rfl
  have c1 : hoC[7]? = some (.bool false) := by kernel_rfl
  have c2 : hoC[8]? = some (.bool false) := by kernel_rfl
  have zW := (Go.zero_of_info ho_info).1
  go_enter Try.func33, Try.ntmps33
  go_wp2_with (first
    | (refine Gu.wpList_pureAt 9 9 _ _ _ ⟨#[.int .i64 5, .int .u32 f, undef, undef, .bool false, undef, undef, undef, undef, .agg #[.int .u32 8, .bool false, .bool false], .agg #[.int .u32 4, .bool false, .bool false], .agg #[.int .u32 1, .bool false, .bool false], .agg #[.int .u32 5, .bool false, .bool false], .agg #[.int .u32 2, .bool false, .bool false], .agg #[.int .u32 0, .bool true, .bool false], .agg #[.int .u32 1, .bool true, .bool false], .agg #[.int .u32 0, .bool false, .bool true], .agg hoC, undef, undef, undef, undef, undef, undef, undef, undef, undef, undef, undef, undef, undef, undef, undef, undef, undef, undef, undef, undef, undef, undef, undef, undef, undef, undef, undef, undef, undef, undef, undef, undef, undef, undef, undef, undef, undef, undef, undef], []⟩ rfl (by kernel_rfl) ?_; simp only [List.drop_succ_cons, List.drop_zero])
    | (refine Gu.wpList_alloc_as rfl 149 rfl _ zW w.heap.size rfl ?_)
    | (refine wpList_store_row rfl 149 _ _ rfl w.heap.size hoC (by rfl) (by rfl) 149 hoZ (heap_alloc_last w _) (Go.zero_of_info ho_info).2 (by rfl) (by kernel_rfl) ?_; rw [World.setRow_alloc_new]))
  go_ret
  exact ⟨by cases n <;> cases v <;> rfl, wk_bel w _ _⟩
set_option maxHeartbeats 1000000 in
theorem ho5f (f : Nat) (n v : Bool) (w : World) (hn : (bits .and .u32 (f : Int) 2 != 0) = n) (hv : (bits .and .u32 (f : Int) 8 != 0) = v) (hs : (bits .and .u32 (f : Int) 1 != 0) = false) :
    Calls Try.prog 33 #[.int .i64 5, .int .u32 f] w fun e w' => e = .returned (.bool (false == false)) ∧ Below w.heap.size w w' := by
  have c0 : hoC[6]? = some (.int .u32 1) := by kernel_rfl
  have c1 : hoC[7]? = some (.bool false) := by kernel_rfl
  have c2 : hoC[8]? = some (.bool false) := by kernel_rfl
  have zW := (Go.zero_of_info ho_info).1
  go_enter Try.func33, Try.ntmps33
  go_wp2_with (first
    | (refine Gu.wpList_pureAt 9 9 _ _ _ ⟨#[.int .i64 5, .int .u32 f, undef, undef, .bool false, undef, undef, undef, undef, .agg #[.int .u32 8, .bool false, .bool false], .agg #[.int .u32 4, .bool false, .bool false], .agg #[.int .u32 1, .bool false, .bool false], .agg #[.int .u32 5, .bool false, .bool false], .agg #[.int .u32 2, .bool false, .bool false], .agg #[.int .u32 0, .bool true, .bool false], .agg #[.int .u32 1, .bool true, .bool false], .agg #[.int .u32 0, .bool false, .bool true], .agg hoC, undef, undef, undef, undef, undef, undef, undef, undef, undef, undef, undef, undef, undef, undef, undef, undef, undef, undef, undef, undef, undef, undef, undef, undef, undef, undef, undef, undef, undef, undef, undef, undef, undef, undef, undef, undef, undef, undef, undef], []⟩ rfl (by kernel_rfl) ?_; simp only [List.drop_succ_cons, List.drop_zero])
    | (refine Gu.wpList_alloc_as rfl 149 rfl _ zW w.heap.size rfl ?_)
    | (refine wpList_store_row rfl 149 _ _ rfl w.heap.size hoC (by rfl) (by rfl) 149 hoZ (heap_alloc_last w _) (Go.zero_of_info ho_info).2 (by rfl) (by kernel_rfl) ?_; rw [World.setRow_alloc_new]))
  go_ret
  exact ⟨by cases n <;> cases v <;> rfl, wk_bel w _ _⟩
theorem ph5 (f : Nat) (w : World) (hf : f < 4294967296) : Calls Try.prog 33 #[.int .i64 5, .int .u32 f] w fun e w' => e = .returned (.bool (Fl.holdsF 5 f)) ∧ Below w.heap.size w w' := by
  have b2 := ho_bits f 2 hf (by omega)
  have b8 := ho_bits f 8 hf (by omega)
  have bS := ho_bits f 1 hf (by omega)
  unfold Fl.holdsF
  generalize ((f : Int) % 2 == 1) = z at *
  generalize ((f : Int) / 2 % 2 == 1) = n at *
  generalize ((f : Int) / 4 % 2 == 1) = y at *
  generalize ((f : Int) / 8 % 2 == 1) = v at *
  cases z <;> cases n <;> cases y <;> cases v
  · rw [show Fl.holdsZ 5 false false false false = true from by decide]; exact ho5f f _ _ w b2 b8 bS
  · rw [show Fl.holdsZ 5 false false false true = true from by decide]; exact ho5f f _ _ w b2 b8 bS
  · rw [show Fl.holdsZ 5 false false true false = true from by decide]; exact ho5f f _ _ w b2 b8 bS
  · rw [show Fl.holdsZ 5 false false true true = true from by decide]; exact ho5f f _ _ w b2 b8 bS
  · rw [show Fl.holdsZ 5 false true false false = true from by decide]; exact ho5f f _ _ w b2 b8 bS
  · rw [show Fl.holdsZ 5 false true false true = true from by decide]; exact ho5f f _ _ w b2 b8 bS
  · rw [show Fl.holdsZ 5 false true true false = true from by decide]; exact ho5f f _ _ w b2 b8 bS
  · rw [show Fl.holdsZ 5 false true true true = true from by decide]; exact ho5f f _ _ w b2 b8 bS
  · rw [show Fl.holdsZ 5 true false false false = false from by decide]; exact ho5t f _ _ w b2 b8 bS
  · rw [show Fl.holdsZ 5 true false false true = false from by decide]; exact ho5t f _ _ w b2 b8 bS
  · rw [show Fl.holdsZ 5 true false true false = false from by decide]; exact ho5t f _ _ w b2 b8 bS
  · rw [show Fl.holdsZ 5 true false true true = false from by decide]; exact ho5t f _ _ w b2 b8 bS
  · rw [show Fl.holdsZ 5 true true false false = false from by decide]; exact ho5t f _ _ w b2 b8 bS
  · rw [show Fl.holdsZ 5 true true false true = false from by decide]; exact ho5t f _ _ w b2 b8 bS
  · rw [show Fl.holdsZ 5 true true true false = false from by decide]; exact ho5t f _ _ w b2 b8 bS
  · rw [show Fl.holdsZ 5 true true true true = false from by decide]; exact ho5t f _ _ w b2 b8 bS
set_option maxHeartbeats 1000000 in
theorem ho6t (f : Nat) (n v : Bool) (w : World) (hn : (bits .and .u32 (f : Int) 2 != 0) = n) (hv : (bits .and .u32 (f : Int) 8 != 0) = v) (hs : (bits .and .u32 (f : Int) 5 != 0) = true) :
    Calls Try.prog 33 #[.int .i64 6, .int .u32 f] w fun e w' => e = .returned (.bool (true == true)) ∧ Below w.heap.size w w' := by
  have c0 : hoC[9]? = some (.int .u32 5) := by kernel_rfl
  have c1 : hoC[10]? = some (.bool false) := by kernel_rfl
  have c2 : hoC[11]? = some (.bool false) := by kernel_rfl
  have zW := (Go.zero_of_info ho_info).1
  go_enter Try.func33, Try.ntmps33
  go_wp2_with (first
    | (refine Gu.wpList_pureAt 9 9 _ _ _ ⟨#[.int .i64 6, .int .u32 f, undef, undef, .bool false, undef, undef, undef, undef, .agg #[.int .u32 8, .bool false, .bool false], .agg #[.int .u32 4, .bool false, .bool false], .agg #[.int .u32 1, .bool false, .bool false], .agg #[.int .u32 5, .bool false, .bool false], .agg #[.int .u32 2, .bool false, .bool false], .agg #[.int .u32 0, .bool true, .bool false], .agg #[.int .u32 1, .bool true, .bool false], .agg #[.int .u32 0, .bool false, .bool true], .agg hoC, undef, undef, undef, undef, undef, undef, undef, undef, undef, undef, undef, undef, undef, undef, undef, undef, undef, undef, undef, undef, undef, undef, undef, undef, undef, undef, undef, undef, undef, undef, undef, undef, undef, undef, undef, undef, undef, undef, undef], []⟩ rfl (by kernel_rfl) ?_; simp only [List.drop_succ_cons, List.drop_zero])
    | (refine Gu.wpList_alloc_as rfl 149 rfl _ zW w.heap.size rfl ?_)
    | (refine wpList_store_row rfl 149 _ _ rfl w.heap.size hoC (by rfl) (by rfl) 149 hoZ (heap_alloc_last w _) (Go.zero_of_info ho_info).2 (by rfl) (by kernel_rfl) ?_; rw [World.setRow_alloc_new]))
  go_ret
  exact ⟨by cases n <;> cases v <;> rfl, wk_bel w _ _⟩
set_option maxHeartbeats 1000000 in
theorem ho6f (f : Nat) (n v : Bool) (w : World) (hn : (bits .and .u32 (f : Int) 2 != 0) = n) (hv : (bits .and .u32 (f : Int) 8 != 0) = v) (hs : (bits .and .u32 (f : Int) 5 != 0) = false) :
    Calls Try.prog 33 #[.int .i64 6, .int .u32 f] w fun e w' => e = .returned (.bool (false == true)) ∧ Below w.heap.size w w' := by
  have c0 : hoC[9]? = some (.int .u32 5) := by kernel_rfl
  have c1 : hoC[10]? = some (.bool false) := by kernel_rfl
  have c2 : hoC[11]? = some (.bool false) := by kernel_rfl
  have zW := (Go.zero_of_info ho_info).1
  go_enter Try.func33, Try.ntmps33
  go_wp2_with (first
    | (refine Gu.wpList_pureAt 9 9 _ _ _ ⟨#[.int .i64 6, .int .u32 f, undef, undef, .bool false, undef, undef, undef, undef, .agg #[.int .u32 8, .bool false, .bool false], .agg #[.int .u32 4, .bool false, .bool false], .agg #[.int .u32 1, .bool false, .bool false], .agg #[.int .u32 5, .bool false, .bool false], .agg #[.int .u32 2, .bool false, .bool false], .agg #[.int .u32 0, .bool true, .bool false], .agg #[.int .u32 1, .bool true, .bool false], .agg #[.int .u32 0, .bool false, .bool true], .agg hoC, undef, undef, undef, undef, undef, undef, undef, undef, undef, undef, undef, undef, undef, undef, undef, undef, undef, undef, undef, undef, undef, undef, undef, undef, undef, undef, undef, undef, undef, undef, undef, undef, undef, undef, undef, undef, undef, undef, undef], []⟩ rfl (by kernel_rfl) ?_; simp only [List.drop_succ_cons, List.drop_zero])
    | (refine Gu.wpList_alloc_as rfl 149 rfl _ zW w.heap.size rfl ?_)
    | (refine wpList_store_row rfl 149 _ _ rfl w.heap.size hoC (by rfl) (by rfl) 149 hoZ (heap_alloc_last w _) (Go.zero_of_info ho_info).2 (by rfl) (by kernel_rfl) ?_; rw [World.setRow_alloc_new]))
  go_ret
  exact ⟨by cases n <;> cases v <;> rfl, wk_bel w _ _⟩
theorem ph6 (f : Nat) (w : World) (hf : f < 4294967296) : Calls Try.prog 33 #[.int .i64 6, .int .u32 f] w fun e w' => e = .returned (.bool (Fl.holdsF 6 f)) ∧ Below w.heap.size w w' := by
  have b2 := ho_bits f 2 hf (by omega)
  have b8 := ho_bits f 8 hf (by omega)
  have bS := ho_bits f 5 hf (by omega)
  unfold Fl.holdsF
  generalize ((f : Int) % 2 == 1) = z at *
  generalize ((f : Int) / 2 % 2 == 1) = n at *
  generalize ((f : Int) / 4 % 2 == 1) = y at *
  generalize ((f : Int) / 8 % 2 == 1) = v at *
  cases z <;> cases n <;> cases y <;> cases v
  · rw [show Fl.holdsZ 6 false false false false = false from by decide]; exact ho6f f _ _ w b2 b8 bS
  · rw [show Fl.holdsZ 6 false false false true = false from by decide]; exact ho6f f _ _ w b2 b8 bS
  · rw [show Fl.holdsZ 6 false false true false = true from by decide]; exact ho6t f _ _ w b2 b8 bS
  · rw [show Fl.holdsZ 6 false false true true = true from by decide]; exact ho6t f _ _ w b2 b8 bS
  · rw [show Fl.holdsZ 6 false true false false = false from by decide]; exact ho6f f _ _ w b2 b8 bS
  · rw [show Fl.holdsZ 6 false true false true = false from by decide]; exact ho6f f _ _ w b2 b8 bS
  · rw [show Fl.holdsZ 6 false true true false = true from by decide]; exact ho6t f _ _ w b2 b8 bS
  · rw [show Fl.holdsZ 6 false true true true = true from by decide]; exact ho6t f _ _ w b2 b8 bS
  · rw [show Fl.holdsZ 6 true false false false = true from by decide]; exact ho6t f _ _ w b2 b8 bS
  · rw [show Fl.holdsZ 6 true false false true = true from by decide]; exact ho6t f _ _ w b2 b8 bS
  · rw [show Fl.holdsZ 6 true false true false = true from by decide]; exact ho6t f _ _ w b2 b8 bS
  · rw [show Fl.holdsZ 6 true false true true = true from by decide]; exact ho6t f _ _ w b2 b8 bS
  · rw [show Fl.holdsZ 6 true true false false = true from by decide]; exact ho6t f _ _ w b2 b8 bS
  · rw [show Fl.holdsZ 6 true true false true = true from by decide]; exact ho6t f _ _ w b2 b8 bS
  · rw [show Fl.holdsZ 6 true true true false = true from by decide]; exact ho6t f _ _ w b2 b8 bS
  · rw [show Fl.holdsZ 6 true true true true = true from by decide]; exact ho6t f _ _ w b2 b8 bS
set_option maxHeartbeats 1000000 in
theorem ho7t (f : Nat) (n v : Bool) (w : World) (hn : (bits .and .u32 (f : Int) 2 != 0) = n) (hv : (bits .and .u32 (f : Int) 8 != 0) = v) (hs : (bits .and .u32 (f : Int) 5 != 0) = true) :
    Calls Try.prog 33 #[.int .i64 7, .int .u32 f] w fun e w' => e = .returned (.bool (true == false)) ∧ Below w.heap.size w w' := by
  have c0 : hoC[9]? = some (.int .u32 5) := by kernel_rfl
  have c1 : hoC[10]? = some (.bool false) := by kernel_rfl
  have c2 : hoC[11]? = some (.bool false) := by kernel_rfl
  have zW := (Go.zero_of_info ho_info).1
  go_enter Try.func33, Try.ntmps33
  go_wp2_with (first
    | (refine Gu.wpList_pureAt 9 9 _ _ _ ⟨#[.int .i64 7, .int .u32 f, undef, undef, .bool false, undef, undef, undef, undef, .agg #[.int .u32 8, .bool false, .bool false], .agg #[.int .u32 4, .bool false, .bool false], .agg #[.int .u32 1, .bool false, .bool false], .agg #[.int .u32 5, .bool false, .bool false], .agg #[.int .u32 2, .bool false, .bool false], .agg #[.int .u32 0, .bool true, .bool false], .agg #[.int .u32 1, .bool true, .bool false], .agg #[.int .u32 0, .bool false, .bool true], .agg hoC, undef, undef, undef, undef, undef, undef, undef, undef, undef, undef, undef, undef, undef, undef, undef, undef, undef, undef, undef, undef, undef, undef, undef, undef, undef, undef, undef, undef, undef, undef, undef, undef, undef, undef, undef, undef, undef, undef, undef], []⟩ rfl (by kernel_rfl) ?_; simp only [List.drop_succ_cons, List.drop_zero])
    | (refine Gu.wpList_alloc_as rfl 149 rfl _ zW w.heap.size rfl ?_)
    | (refine wpList_store_row rfl 149 _ _ rfl w.heap.size hoC (by rfl) (by rfl) 149 hoZ (heap_alloc_last w _) (Go.zero_of_info ho_info).2 (by rfl) (by kernel_rfl) ?_; rw [World.setRow_alloc_new]))
  go_ret
  exact ⟨by cases n <;> cases v <;> rfl, wk_bel w _ _⟩
set_option maxHeartbeats 1000000 in
theorem ho7f (f : Nat) (n v : Bool) (w : World) (hn : (bits .and .u32 (f : Int) 2 != 0) = n) (hv : (bits .and .u32 (f : Int) 8 != 0) = v) (hs : (bits .and .u32 (f : Int) 5 != 0) = false) :
    Calls Try.prog 33 #[.int .i64 7, .int .u32 f] w fun e w' => e = .returned (.bool (false == false)) ∧ Below w.heap.size w w' := by
  have c0 : hoC[9]? = some (.int .u32 5) := by kernel_rfl
  have c1 : hoC[10]? = some (.bool false) := by kernel_rfl
  have c2 : hoC[11]? = some (.bool false) := by kernel_rfl
  have zW := (Go.zero_of_info ho_info).1
  go_enter Try.func33, Try.ntmps33
  go_wp2_with (first
    | (refine Gu.wpList_pureAt 9 9 _ _ _ ⟨#[.int .i64 7, .int .u32 f, undef, undef, .bool false, undef, undef, undef, undef, .agg #[.int .u32 8, .bool false, .bool false], .agg #[.int .u32 4, .bool false, .bool false], .agg #[.int .u32 1, .bool false, .bool false], .agg #[.int .u32 5, .bool false, .bool false], .agg #[.int .u32 2, .bool false, .bool false], .agg #[.int .u32 0, .bool true, .bool false], .agg #[.int .u32 1, .bool true, .bool false], .agg #[.int .u32 0, .bool false, .bool true], .agg hoC, undef, undef, undef, undef, undef, undef, undef, undef, undef, undef, undef, undef, undef, undef, undef, undef, undef, undef, undef, undef, undef, undef, undef, undef, undef, undef, undef, undef, undef, undef, undef, undef, undef, undef, undef, undef, undef, undef, undef], []⟩ rfl (by kernel_rfl) ?_; simp only [List.drop_succ_cons, List.drop_zero])
    | (refine Gu.wpList_alloc_as rfl 149 rfl _ zW w.heap.size rfl ?_)
    | (refine wpList_store_row rfl 149 _ _ rfl w.heap.size hoC (by rfl) (by rfl) 149 hoZ (heap_alloc_last w _) (Go.zero_of_info ho_info).2 (by rfl) (by kernel_rfl) ?_; rw [World.setRow_alloc_new]))
  go_ret
  exact ⟨by cases n <;> cases v <;> rfl, wk_bel w _ _⟩
theorem ph7 (f : Nat) (w : World) (hf : f < 4294967296) : Calls Try.prog 33 #[.int .i64 7, .int .u32 f] w fun e w' => e = .returned (.bool (Fl.holdsF 7 f)) ∧ Below w.heap.size w w' := by
  have b2 := ho_bits f 2 hf (by omega)
  have b8 := ho_bits f 8 hf (by omega)
  have bS := ho_bits f 5 hf (by omega)
  unfold Fl.holdsF
  generalize ((f : Int) % 2 == 1) = z at *
  generalize ((f : Int) / 2 % 2 == 1) = n at *
  generalize ((f : Int) / 4 % 2 == 1) = y at *
  generalize ((f : Int) / 8 % 2 == 1) = v at *
  cases z <;> cases n <;> cases y <;> cases v
  · rw [show Fl.holdsZ 7 false false false false = true from by decide]; exact ho7f f _ _ w b2 b8 bS
  · rw [show Fl.holdsZ 7 false false false true = true from by decide]; exact ho7f f _ _ w b2 b8 bS
  · rw [show Fl.holdsZ 7 false false true false = false from by decide]; exact ho7t f _ _ w b2 b8 bS
  · rw [show Fl.holdsZ 7 false false true true = false from by decide]; exact ho7t f _ _ w b2 b8 bS
  · rw [show Fl.holdsZ 7 false true false false = true from by decide]; exact ho7f f _ _ w b2 b8 bS
  · rw [show Fl.holdsZ 7 false true false true = true from by decide]; exact ho7f f _ _ w b2 b8 bS
  · rw [show Fl.holdsZ 7 false true true false = false from by decide]; exact ho7t f _ _ w b2 b8 bS
  · rw [show Fl.holdsZ 7 false true true true = false from by decide]; exact ho7t f _ _ w b2 b8 bS
  · rw [show Fl.holdsZ 7 true false false false = false from by decide]; exact ho7t f _ _ w b2 b8 bS
  · rw [show Fl.holdsZ 7 true false false true = false from by decide]; exact ho7t f _ _ w b2 b8 bS
  · rw [show Fl.holdsZ 7 true false true false = false from by decide]; exact ho7t f _ _ w b2 b8 bS
  · rw [show Fl.holdsZ 7 true false true true = false from by decide]; exact ho7t f _ _ w b2 b8 bS
  · rw [show Fl.holdsZ 7 true true false false = false from by decide]; exact ho7t f _ _ w b2 b8 bS
  · rw [show Fl.holdsZ 7 true true false true = false from by decide]; exact ho7t f _ _ w b2 b8 bS
  · rw [show Fl.holdsZ 7 true true true false = false from by decide]; exact ho7t f _ _ w b2 b8 bS
  · rw [show Fl.holdsZ 7 true true true true = false from by decide]; exact ho7t f _ _ w b2 b8 bS
end Go.Proofs.Ytkgbjpdoigdjnaa

namespace Go.Proofs.Ytkgbjpdoigdjnaa
open Go.RowKit
set_option maxRecDepth 100000
set_option linter.unusedVariables false
set_option linter.unusedSimpArgs false
set_option maxHeartbeats 1000000 in
theorem ho_lo (c : Int) (f : Nat) (w : World) (hc : c < 0) : Calls Try.prog 33 #[.int .i64 c, .int .u32 f] w fun e w' => e = .returned (.bool false) ∧ Below w.heap.size w w' := by
  have hd : decide (c < 0) = true := decide_eq_true hc
  have zW := (Go.zero_of_info ho_info).1
  go_enter Try.func33, Try.ntmps33
  go_wp2_with (first
    | (refine Gu.wpList_pureAt 9 9 _ _ _ ⟨#[.int .i64 c, .int .u32 f, undef, undef, .bool false, undef, undef, undef, undef, .agg #[.int .u32 8, .bool false, .bool false], .agg #[.int .u32 4, .bool false, .bool false], .agg #[.int .u32 1, .bool false, .bool false], .agg #[.int .u32 5, .bool false, .bool false], .agg #[.int .u32 2, .bool false, .bool false], .agg #[.int .u32 0, .bool true, .bool false], .agg #[.int .u32 1, .bool true, .bool false], .agg #[.int .u32 0, .bool false, .bool true], .agg hoC, undef, undef, undef, undef, undef, undef, undef, undef, undef, undef, undef, undef, undef, undef, undef, undef, undef, undef, undef, undef, undef, undef, undef, undef, undef, undef, undef, undef, undef, undef, undef, undef, undef, undef, undef, undef, undef, undef, undef], []⟩ rfl (by kernel_rfl) ?_; simp only [List.drop_succ_cons, List.drop_zero])
    | (refine Gu.wpList_alloc_as rfl 149 rfl _ zW w.heap.size rfl ?_)
    | (refine wpList_store_row rfl 149 _ _ rfl w.heap.size hoC (by rfl) (by rfl) 149 hoZ (heap_alloc_last w _) (Go.zero_of_info ho_info).2 (by rfl) (by kernel_rfl) ?_; rw [World.setRow_alloc_new]))
  go_ret
  exact ⟨rfl, wk_bel1 w _⟩
set_option maxHeartbeats 1000000 in
theorem ho_hi (c : Int) (f : Nat) (w : World) (hc : 15 < c ∧ c ≤ 9223372036854775807) : Calls Try.prog 33 #[.int .i64 c, .int .u32 f] w fun e w' => e = .returned (.bool false) ∧ Below w.heap.size w w' := by
  have hd : decide (c < 0) = false := decide_eq_false (by omega)
  have ht : c.tdiv 2 = c / 2 := Int.tdiv_eq_ediv_of_nonneg (by omega)
  obtain ⟨q, hq⟩ : ∃ q : Int, c / 2 = q := ⟨_, rfl⟩
  have hq8 : 8 ≤ q := by omega
  have hql : q ≤ 9223372036854775807 := by omega
  rw [hq] at ht
  have hd2 : decide (8 ≤ q) = true := decide_eq_true hq8
  have HQ : Hid _ := hq
  clear hq
  have zW := (Go.zero_of_info ho_info).1
  go_enter Try.func33, Try.ntmps33
  go_wp2_with (first
    | (refine Gu.wpList_pureAt 9 9 _ _ _ ⟨#[.int .i64 c, .int .u32 f, undef, undef, .bool false, undef, undef, undef, undef, .agg #[.int .u32 8, .bool false, .bool false], .agg #[.int .u32 4, .bool false, .bool false], .agg #[.int .u32 1, .bool false, .bool false], .agg #[.int .u32 5, .bool false, .bool false], .agg #[.int .u32 2, .bool false, .bool false], .agg #[.int .u32 0, .bool true, .bool false], .agg #[.int .u32 1, .bool true, .bool false], .agg #[.int .u32 0, .bool false, .bool true], .agg hoC, undef, undef, undef, undef, undef, undef, undef, undef, undef, undef, undef, undef, undef, undef, undef, undef, undef, undef, undef, undef, undef, undef, undef, undef, undef, undef, undef, undef, undef, undef, undef, undef, undef, undef, undef, undef, undef, undef, undef], []⟩ rfl (by kernel_rfl) ?_; simp only [List.drop_succ_cons, List.drop_zero])
    | (refine Gu.wpList_alloc_as rfl 149 rfl _ zW w.heap.size rfl ?_)
    | (refine wpList_store_row rfl 149 _ _ rfl w.heap.size hoC (by rfl) (by rfl) 149 hoZ (heap_alloc_last w _) (Go.zero_of_info ho_info).2 (by rfl) (by kernel_rfl) ?_; rw [World.setRow_alloc_new]))
  go_ret
  exact ⟨rfl, wk_bel1 w _⟩
end Go.Proofs.Ytkgbjpdoigdjnaa
