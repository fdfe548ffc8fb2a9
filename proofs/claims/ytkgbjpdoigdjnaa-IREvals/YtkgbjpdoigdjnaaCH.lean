import Derived.Test.YtkgbjpdoigdjnaaC1
set_option linter.unusedVariables false
set_option linter.unusedSimpArgs false
namespace Go.Proofs.Ytkgbjpdoigdjnaa
open Go.RowKit
set_option maxRecDepth 100000
theorem has__k (f t : Int) (w : World) : Calls Try.prog 103 #[.agg #[.int .i64 f, .int .i64 t, .string { data := #[] }], .int .u8 107] w fun e w' => e = .returned (.bool false) ∧ w.alloc (.cells #[.int .i64 f, .int .i64 t, .string { data := #[] }] 165) = w' := by
 go_enter Try.func103, Try.ntmps103
 go_wp2
 refine wp_loop_rounds 1 ?_
 iterate 1 (rw [rounds_succ]; go_wp2)
 go_ret
 exact ⟨rfl, rfl⟩
theorem has__n (f t : Int) (w : World) : Calls Try.prog 103 #[.agg #[.int .i64 f, .int .i64 t, .string { data := #[] }], .int .u8 110] w fun e w' => e = .returned (.bool false) ∧ w.alloc (.cells #[.int .i64 f, .int .i64 t, .string { data := #[] }] 165) = w' := by
 go_enter Try.func103, Try.ntmps103
 go_wp2
 refine wp_loop_rounds 1 ?_
 iterate 1 (rw [rounds_succ]; go_wp2)
 go_ret
 exact ⟨rfl, rfl⟩
theorem has__a (f t : Int) (w : World) : Calls Try.prog 103 #[.agg #[.int .i64 f, .int .i64 t, .string { data := #[] }], .int .u8 97] w fun e w' => e = .returned (.bool false) ∧ w.alloc (.cells #[.int .i64 f, .int .i64 t, .string { data := #[] }] 165) = w' := by
 go_enter Try.func103, Try.ntmps103
 go_wp2
 refine wp_loop_rounds 1 ?_
 iterate 1 (rw [rounds_succ]; go_wp2)
 go_ret
 exact ⟨rfl, rfl⟩
theorem has__b (f t : Int) (w : World) : Calls Try.prog 103 #[.agg #[.int .i64 f, .int .i64 t, .string { data := #[] }], .int .u8 98] w fun e w' => e = .returned (.bool false) ∧ w.alloc (.cells #[.int .i64 f, .int .i64 t, .string { data := #[] }] 165) = w' := by
 go_enter Try.func103, Try.ntmps103
 go_wp2
 refine wp_loop_rounds 1 ?_
 iterate 1 (rw [rounds_succ]; go_wp2)
 go_ret
 exact ⟨rfl, rfl⟩
theorem has__g (f t : Int) (w : World) : Calls Try.prog 103 #[.agg #[.int .i64 f, .int .i64 t, .string { data := #[] }], .int .u8 103] w fun e w' => e = .returned (.bool false) ∧ w.alloc (.cells #[.int .i64 f, .int .i64 t, .string { data := #[] }] 165) = w' := by
 go_enter Try.func103, Try.ntmps103
 go_wp2
 refine wp_loop_rounds 1 ?_
 iterate 1 (rw [rounds_succ]; go_wp2)
 go_ret
 exact ⟨rfl, rfl⟩
theorem has__c (f t : Int) (w : World) : Calls Try.prog 103 #[.agg #[.int .i64 f, .int .i64 t, .string { data := #[] }], .int .u8 99] w fun e w' => e = .returned (.bool false) ∧ w.alloc (.cells #[.int .i64 f, .int .i64 t, .string { data := #[] }] 165) = w' := by
 go_enter Try.func103, Try.ntmps103
 go_wp2
 refine wp_loop_rounds 1 ?_
 iterate 1 (rw [rounds_succ]; go_wp2)
 go_ret
 exact ⟨rfl, rfl⟩
theorem has_k_k (f t : Int) (w : World) : Calls Try.prog 103 #[.agg #[.int .i64 f, .int .i64 t, .string { data := #[107] }], .int .u8 107] w fun e w' => e = .returned (.bool true) ∧ w.alloc (.cells #[.int .i64 f, .int .i64 t, .string { data := #[107] }] 165) = w' := by
 go_enter Try.func103, Try.ntmps103
 go_wp2
 refine wp_loop_rounds 1 ?_
 iterate 1 (rw [rounds_succ]; go_wp2)
 go_ret
 exact ⟨rfl, rfl⟩
theorem has_k_n (f t : Int) (w : World) : Calls Try.prog 103 #[.agg #[.int .i64 f, .int .i64 t, .string { data := #[107] }], .int .u8 110] w fun e w' => e = .returned (.bool false) ∧ w.alloc (.cells #[.int .i64 f, .int .i64 t, .string { data := #[107] }] 165) = w' := by
 go_enter Try.func103, Try.ntmps103
 go_wp2
 refine wp_loop_rounds 2 ?_
 iterate 2 (rw [rounds_succ]; go_wp2)
 go_ret
 exact ⟨rfl, rfl⟩
theorem has_k_a (f t : Int) (w : World) : Calls Try.prog 103 #[.agg #[.int .i64 f, .int .i64 t, .string { data := #[107] }], .int .u8 97] w fun e w' => e = .returned (.bool false) ∧ w.alloc (.cells #[.int .i64 f, .int .i64 t, .string { data := #[107] }] 165) = w' := by
 go_enter Try.func103, Try.ntmps103
 go_wp2
 refine wp_loop_rounds 2 ?_
 iterate 2 (rw [rounds_succ]; go_wp2)
 go_ret
 exact ⟨rfl, rfl⟩
theorem has_k_b (f t : Int) (w : World) : Calls Try.prog 103 #[.agg #[.int .i64 f, .int .i64 t, .string { data := #[107] }], .int .u8 98] w fun e w' => e = .returned (.bool false) ∧ w.alloc (.cells #[.int .i64 f, .int .i64 t, .string { data := #[107] }] 165) = w' := by
 go_enter Try.func103, Try.ntmps103
 go_wp2
 refine wp_loop_rounds 2 ?_
 iterate 2 (rw [rounds_succ]; go_wp2)
 go_ret
 exact ⟨rfl, rfl⟩
theorem has_k_g (f t : Int) (w : World) : Calls Try.prog 103 #[.agg #[.int .i64 f, .int .i64 t, .string { data := #[107] }], .int .u8 103] w fun e w' => e = .returned (.bool false) ∧ w.alloc (.cells #[.int .i64 f, .int .i64 t, .string { data := #[107] }] 165) = w' := by
 go_enter Try.func103, Try.ntmps103
 go_wp2
 refine wp_loop_rounds 2 ?_
 iterate 2 (rw [rounds_succ]; go_wp2)
 go_ret
 exact ⟨rfl, rfl⟩
theorem has_k_c (f t : Int) (w : World) : Calls Try.prog 103 #[.agg #[.int .i64 f, .int .i64 t, .string { data := #[107] }], .int .u8 99] w fun e w' => e = .returned (.bool false) ∧ w.alloc (.cells #[.int .i64 f, .int .i64 t, .string { data := #[107] }] 165) = w' := by
 go_enter Try.func103, Try.ntmps103
 go_wp2
 refine wp_loop_rounds 2 ?_
 iterate 2 (rw [rounds_succ]; go_wp2)
 go_ret
 exact ⟨rfl, rfl⟩
theorem has_a_k (f t : Int) (w : World) : Calls Try.prog 103 #[.agg #[.int .i64 f, .int .i64 t, .string { data := #[97] }], .int .u8 107] w fun e w' => e = .returned (.bool false) ∧ w.alloc (.cells #[.int .i64 f, .int .i64 t, .string { data := #[97] }] 165) = w' := by
 go_enter Try.func103, Try.ntmps103
 go_wp2
 refine wp_loop_rounds 2 ?_
 iterate 2 (rw [rounds_succ]; go_wp2)
 go_ret
 exact ⟨rfl, rfl⟩
theorem has_a_n (f t : Int) (w : World) : Calls Try.prog 103 #[.agg #[.int .i64 f, .int .i64 t, .string { data := #[97] }], .int .u8 110] w fun e w' => e = .returned (.bool false) ∧ w.alloc (.cells #[.int .i64 f, .int .i64 t, .string { data := #[97] }] 165) = w' := by
 go_enter Try.func103, Try.ntmps103
 go_wp2
 refine wp_loop_rounds 2 ?_
 iterate 2 (rw [rounds_succ]; go_wp2)
 go_ret
 exact ⟨rfl, rfl⟩
theorem has_a_a (f t : Int) (w : World) : Calls Try.prog 103 #[.agg #[.int .i64 f, .int .i64 t, .string { data := #[97] }], .int .u8 97] w fun e w' => e = .returned (.bool true) ∧ w.alloc (.cells #[.int .i64 f, .int .i64 t, .string { data := #[97] }] 165) = w' := by
 go_enter Try.func103, Try.ntmps103
 go_wp2
 refine wp_loop_rounds 1 ?_
 iterate 1 (rw [rounds_succ]; go_wp2)
 go_ret
 exact ⟨rfl, rfl⟩
theorem has_a_b (f t : Int) (w : World) : Calls Try.prog 103 #[.agg #[.int .i64 f, .int .i64 t, .string { data := #[97] }], .int .u8 98] w fun e w' => e = .returned (.bool false) ∧ w.alloc (.cells #[.int .i64 f, .int .i64 t, .string { data := #[97] }] 165) = w' := by
 go_enter Try.func103, Try.ntmps103
 go_wp2
 refine wp_loop_rounds 2 ?_
 iterate 2 (rw [rounds_succ]; go_wp2)
 go_ret
 exact ⟨rfl, rfl⟩
theorem has_a_g (f t : Int) (w : World) : Calls Try.prog 103 #[.agg #[.int .i64 f, .int .i64 t, .string { data := #[97] }], .int .u8 103] w fun e w' => e = .returned (.bool false) ∧ w.alloc (.cells #[.int .i64 f, .int .i64 t, .string { data := #[97] }] 165) = w' := by
 go_enter Try.func103, Try.ntmps103
 go_wp2
 refine wp_loop_rounds 2 ?_
 iterate 2 (rw [rounds_succ]; go_wp2)
 go_ret
 exact ⟨rfl, rfl⟩
theorem has_a_c (f t : Int) (w : World) : Calls Try.prog 103 #[.agg #[.int .i64 f, .int .i64 t, .string { data := #[97] }], .int .u8 99] w fun e w' => e = .returned (.bool false) ∧ w.alloc (.cells #[.int .i64 f, .int .i64 t, .string { data := #[97] }] 165) = w' := by
 go_enter Try.func103, Try.ntmps103
 go_wp2
 refine wp_loop_rounds 2 ?_
 iterate 2 (rw [rounds_succ]; go_wp2)
 go_ret
 exact ⟨rfl, rfl⟩
theorem has_ab_k (f t : Int) (w : World) : Calls Try.prog 103 #[.agg #[.int .i64 f, .int .i64 t, .string { data := #[97, 98] }], .int .u8 107] w fun e w' => e = .returned (.bool false) ∧ w.alloc (.cells #[.int .i64 f, .int .i64 t, .string { data := #[97, 98] }] 165) = w' := by
 go_enter Try.func103, Try.ntmps103
 go_wp2
 refine wp_loop_rounds 3 ?_
 iterate 3 (rw [rounds_succ]; go_wp2)
 go_ret
 exact ⟨rfl, rfl⟩
theorem has_ab_n (f t : Int) (w : World) : Calls Try.prog 103 #[.agg #[.int .i64 f, .int .i64 t, .string { data := #[97, 98] }], .int .u8 110] w fun e w' => e = .returned (.bool false) ∧ w.alloc (.cells #[.int .i64 f, .int .i64 t, .string { data := #[97, 98] }] 165) = w' := by
 go_enter Try.func103, Try.ntmps103
 go_wp2
 refine wp_loop_rounds 3 ?_
 iterate 3 (rw [rounds_succ]; go_wp2)
 go_ret
 exact ⟨rfl, rfl⟩
theorem has_ab_a (f t : Int) (w : World) : Calls Try.prog 103 #[.agg #[.int .i64 f, .int .i64 t, .string { data := #[97, 98] }], .int .u8 97] w fun e w' => e = .returned (.bool true) ∧ w.alloc (.cells #[.int .i64 f, .int .i64 t, .string { data := #[97, 98] }] 165) = w' := by
 go_enter Try.func103, Try.ntmps103
 go_wp2
 refine wp_loop_rounds 1 ?_
 iterate 1 (rw [rounds_succ]; go_wp2)
 go_ret
 exact ⟨rfl, rfl⟩
theorem has_ab_b (f t : Int) (w : World) : Calls Try.prog 103 #[.agg #[.int .i64 f, .int .i64 t, .string { data := #[97, 98] }], .int .u8 98] w fun e w' => e = .returned (.bool true) ∧ w.alloc (.cells #[.int .i64 f, .int .i64 t, .string { data := #[97, 98] }] 165) = w' := by
 go_enter Try.func103, Try.ntmps103
 go_wp2
 refine wp_loop_rounds 2 ?_
 iterate 2 (rw [rounds_succ]; go_wp2)
 go_ret
 exact ⟨rfl, rfl⟩
theorem has_ab_g (f t : Int) (w : World) : Calls Try.prog 103 #[.agg #[.int .i64 f, .int .i64 t, .string { data := #[97, 98] }], .int .u8 103] w fun e w' => e = .returned (.bool false) ∧ w.alloc (.cells #[.int .i64 f, .int .i64 t, .string { data := #[97, 98] }] 165) = w' := by
 go_enter Try.func103, Try.ntmps103
 go_wp2
 refine wp_loop_rounds 3 ?_
 iterate 3 (rw [rounds_succ]; go_wp2)
 go_ret
 exact ⟨rfl, rfl⟩
theorem has_ab_c (f t : Int) (w : World) : Calls Try.prog 103 #[.agg #[.int .i64 f, .int .i64 t, .string { data := #[97, 98] }], .int .u8 99] w fun e w' => e = .returned (.bool false) ∧ w.alloc (.cells #[.int .i64 f, .int .i64 t, .string { data := #[97, 98] }] 165) = w' := by
 go_enter Try.func103, Try.ntmps103
 go_wp2
 refine wp_loop_rounds 3 ?_
 iterate 3 (rw [rounds_succ]; go_wp2)
 go_ret
 exact ⟨rfl, rfl⟩
theorem has_abc_k (f t : Int) (w : World) : Calls Try.prog 103 #[.agg #[.int .i64 f, .int .i64 t, .string { data := #[97, 98, 99] }], .int .u8 107] w fun e w' => e = .returned (.bool false) ∧ w.alloc (.cells #[.int .i64 f, .int .i64 t, .string { data := #[97, 98, 99] }] 165) = w' := by
 go_enter Try.func103, Try.ntmps103
 go_wp2
 refine wp_loop_rounds 4 ?_
 iterate 4 (rw [rounds_succ]; go_wp2)
 go_ret
 exact ⟨rfl, rfl⟩
theorem has_abc_n (f t : Int) (w : World) : Calls Try.prog 103 #[.agg #[.int .i64 f, .int .i64 t, .string { data := #[97, 98, 99] }], .int .u8 110] w fun e w' => e = .returned (.bool false) ∧ w.alloc (.cells #[.int .i64 f, .int .i64 t, .string { data := #[97, 98, 99] }] 165) = w' := by
 go_enter Try.func103, Try.ntmps103
 go_wp2
 refine wp_loop_rounds 4 ?_
 iterate 4 (rw [rounds_succ]; go_wp2)
 go_ret
 exact ⟨rfl, rfl⟩
theorem has_abc_a (f t : Int) (w : World) : Calls Try.prog 103 #[.agg #[.int .i64 f, .int .i64 t, .string { data := #[97, 98, 99] }], .int .u8 97] w fun e w' => e = .returned (.bool true) ∧ w.alloc (.cells #[.int .i64 f, .int .i64 t, .string { data := #[97, 98, 99] }] 165) = w' := by
 go_enter Try.func103, Try.ntmps103
 go_wp2
 refine wp_loop_rounds 1 ?_
 iterate 1 (rw [rounds_succ]; go_wp2)
 go_ret
 exact ⟨rfl, rfl⟩
theorem has_abc_b (f t : Int) (w : World) : Calls Try.prog 103 #[.agg #[.int .i64 f, .int .i64 t, .string { data := #[97, 98, 99] }], .int .u8 98] w fun e w' => e = .returned (.bool true) ∧ w.alloc (.cells #[.int .i64 f, .int .i64 t, .string { data := #[97, 98, 99] }] 165) = w' := by
 go_enter Try.func103, Try.ntmps103
 go_wp2
 refine wp_loop_rounds 2 ?_
 iterate 2 (rw [rounds_succ]; go_wp2)
 go_ret
 exact ⟨rfl, rfl⟩
theorem has_abc_g (f t : Int) (w : World) : Calls Try.prog 103 #[.agg #[.int .i64 f, .int .i64 t, .string { data := #[97, 98, 99] }], .int .u8 103] w fun e w' => e = .returned (.bool false) ∧ w.alloc (.cells #[.int .i64 f, .int .i64 t, .string { data := #[97, 98, 99] }] 165) = w' := by
 go_enter Try.func103, Try.ntmps103
 go_wp2
 refine wp_loop_rounds 4 ?_
 iterate 4 (rw [rounds_succ]; go_wp2)
 go_ret
 exact ⟨rfl, rfl⟩
theorem has_abc_c (f t : Int) (w : World) : Calls Try.prog 103 #[.agg #[.int .i64 f, .int .i64 t, .string { data := #[97, 98, 99] }], .int .u8 99] w fun e w' => e = .returned (.bool true) ∧ w.alloc (.cells #[.int .i64 f, .int .i64 t, .string { data := #[97, 98, 99] }] 165) = w' := by
 go_enter Try.func103, Try.ntmps103
 go_wp2
 refine wp_loop_rounds 3 ?_
 iterate 3 (rw [rounds_succ]; go_wp2)
 go_ret
 exact ⟨rfl, rfl⟩
theorem has_akn_k (f t : Int) (w : World) : Calls Try.prog 103 #[.agg #[.int .i64 f, .int .i64 t, .string { data := #[97, 107, 110] }], .int .u8 107] w fun e w' => e = .returned (.bool true) ∧ w.alloc (.cells #[.int .i64 f, .int .i64 t, .string { data := #[97, 107, 110] }] 165) = w' := by
 go_enter Try.func103, Try.ntmps103
 go_wp2
 refine wp_loop_rounds 2 ?_
 iterate 2 (rw [rounds_succ]; go_wp2)
 go_ret
 exact ⟨rfl, rfl⟩
theorem has_akn_n (f t : Int) (w : World) : Calls Try.prog 103 #[.agg #[.int .i64 f, .int .i64 t, .string { data := #[97, 107, 110] }], .int .u8 110] w fun e w' => e = .returned (.bool true) ∧ w.alloc (.cells #[.int .i64 f, .int .i64 t, .string { data := #[97, 107, 110] }] 165) = w' := by
 go_enter Try.func103, Try.ntmps103
 go_wp2
 refine wp_loop_rounds 3 ?_
 iterate 3 (rw [rounds_succ]; go_wp2)
 go_ret
 exact ⟨rfl, rfl⟩
theorem has_akn_a (f t : Int) (w : World) : Calls Try.prog 103 #[.agg #[.int .i64 f, .int .i64 t, .string { data := #[97, 107, 110] }], .int .u8 97] w fun e w' => e = .returned (.bool true) ∧ w.alloc (.cells #[.int .i64 f, .int .i64 t, .string { data := #[97, 107, 110] }] 165) = w' := by
 go_enter Try.func103, Try.ntmps103
 go_wp2
 refine wp_loop_rounds 1 ?_
 iterate 1 (rw [rounds_succ]; go_wp2)
 go_ret
 exact ⟨rfl, rfl⟩
theorem has_akn_b (f t : Int) (w : World) : Calls Try.prog 103 #[.agg #[.int .i64 f, .int .i64 t, .string { data := #[97, 107, 110] }], .int .u8 98] w fun e w' => e = .returned (.bool false) ∧ w.alloc (.cells #[.int .i64 f, .int .i64 t, .string { data := #[97, 107, 110] }] 165) = w' := by
 go_enter Try.func103, Try.ntmps103
 go_wp2
 refine wp_loop_rounds 4 ?_
 iterate 4 (rw [rounds_succ]; go_wp2)
 go_ret
 exact ⟨rfl, rfl⟩
theorem has_akn_g (f t : Int) (w : World) : Calls Try.prog 103 #[.agg #[.int .i64 f, .int .i64 t, .string { data := #[97, 107, 110] }], .int .u8 103] w fun e w' => e = .returned (.bool false) ∧ w.alloc (.cells #[.int .i64 f, .int .i64 t, .string { data := #[97, 107, 110] }] 165) = w' := by
 go_enter Try.func103, Try.ntmps103
 go_wp2
 refine wp_loop_rounds 4 ?_
 iterate 4 (rw [rounds_succ]; go_wp2)
 go_ret
 exact ⟨rfl, rfl⟩
theorem has_akn_c (f t : Int) (w : World) : Calls Try.prog 103 #[.agg #[.int .i64 f, .int .i64 t, .string { data := #[97, 107, 110] }], .int .u8 99] w fun e w' => e = .returned (.bool false) ∧ w.alloc (.cells #[.int .i64 f, .int .i64 t, .string { data := #[97, 107, 110] }] 165) = w' := by
 go_enter Try.func103, Try.ntmps103
 go_wp2
 refine wp_loop_rounds 4 ?_
 iterate 4 (rw [rounds_succ]; go_wp2)
 go_ret
 exact ⟨rfl, rfl⟩
theorem has_abkn_k (f t : Int) (w : World) : Calls Try.prog 103 #[.agg #[.int .i64 f, .int .i64 t, .string { data := #[97, 98, 107, 110] }], .int .u8 107] w fun e w' => e = .returned (.bool true) ∧ w.alloc (.cells #[.int .i64 f, .int .i64 t, .string { data := #[97, 98, 107, 110] }] 165) = w' := by
 go_enter Try.func103, Try.ntmps103
 go_wp2
 refine wp_loop_rounds 3 ?_
 iterate 3 (rw [rounds_succ]; go_wp2)
 go_ret
 exact ⟨rfl, rfl⟩
theorem has_abkn_n (f t : Int) (w : World) : Calls Try.prog 103 #[.agg #[.int .i64 f, .int .i64 t, .string { data := #[97, 98, 107, 110] }], .int .u8 110] w fun e w' => e = .returned (.bool true) ∧ w.alloc (.cells #[.int .i64 f, .int .i64 t, .string { data := #[97, 98, 107, 110] }] 165) = w' := by
 go_enter Try.func103, Try.ntmps103
 go_wp2
 refine wp_loop_rounds 4 ?_
 iterate 4 (rw [rounds_succ]; go_wp2)
 go_ret
 exact ⟨rfl, rfl⟩
theorem has_abkn_a (f t : Int) (w : World) : Calls Try.prog 103 #[.agg #[.int .i64 f, .int .i64 t, .string { data := #[97, 98, 107, 110] }], .int .u8 97] w fun e w' => e = .returned (.bool true) ∧ w.alloc (.cells #[.int .i64 f, .int .i64 t, .string { data := #[97, 98, 107, 110] }] 165) = w' := by
 go_enter Try.func103, Try.ntmps103
 go_wp2
 refine wp_loop_rounds 1 ?_
 iterate 1 (rw [rounds_succ]; go_wp2)
 go_ret
 exact ⟨rfl, rfl⟩
theorem has_abkn_b (f t : Int) (w : World) : Calls Try.prog 103 #[.agg #[.int .i64 f, .int .i64 t, .string { data := #[97, 98, 107, 110] }], .int .u8 98] w fun e w' => e = .returned (.bool true) ∧ w.alloc (.cells #[.int .i64 f, .int .i64 t, .string { data := #[97, 98, 107, 110] }] 165) = w' := by
 go_enter Try.func103, Try.ntmps103
 go_wp2
 refine wp_loop_rounds 2 ?_
 iterate 2 (rw [rounds_succ]; go_wp2)
 go_ret
 exact ⟨rfl, rfl⟩
theorem has_abkn_g (f t : Int) (w : World) : Calls Try.prog 103 #[.agg #[.int .i64 f, .int .i64 t, .string { data := #[97, 98, 107, 110] }], .int .u8 103] w fun e w' => e = .returned (.bool false) ∧ w.alloc (.cells #[.int .i64 f, .int .i64 t, .string { data := #[97, 98, 107, 110] }] 165) = w' := by
 go_enter Try.func103, Try.ntmps103
 go_wp2
 refine wp_loop_rounds 5 ?_
 iterate 5 (rw [rounds_succ]; go_wp2)
 go_ret
 exact ⟨rfl, rfl⟩
theorem has_abkn_c (f t : Int) (w : World) : Calls Try.prog 103 #[.agg #[.int .i64 f, .int .i64 t, .string { data := #[97, 98, 107, 110] }], .int .u8 99] w fun e w' => e = .returned (.bool false) ∧ w.alloc (.cells #[.int .i64 f, .int .i64 t, .string { data := #[97, 98, 107, 110] }] 165) = w' := by
 go_enter Try.func103, Try.ntmps103
 go_wp2
 refine wp_loop_rounds 5 ?_
 iterate 5 (rw [rounds_succ]; go_wp2)
 go_ret
 exact ⟨rfl, rfl⟩
theorem has_kn_k (f t : Int) (w : World) : Calls Try.prog 103 #[.agg #[.int .i64 f, .int .i64 t, .string { data := #[107, 110] }], .int .u8 107] w fun e w' => e = .returned (.bool true) ∧ w.alloc (.cells #[.int .i64 f, .int .i64 t, .string { data := #[107, 110] }] 165) = w' := by
 go_enter Try.func103, Try.ntmps103
 go_wp2
 refine wp_loop_rounds 1 ?_
 iterate 1 (rw [rounds_succ]; go_wp2)
 go_ret
 exact ⟨rfl, rfl⟩
theorem has_kn_n (f t : Int) (w : World) : Calls Try.prog 103 #[.agg #[.int .i64 f, .int .i64 t, .string { data := #[107, 110] }], .int .u8 110] w fun e w' => e = .returned (.bool true) ∧ w.alloc (.cells #[.int .i64 f, .int .i64 t, .string { data := #[107, 110] }] 165) = w' := by
 go_enter Try.func103, Try.ntmps103
 go_wp2
 refine wp_loop_rounds 2 ?_
 iterate 2 (rw [rounds_succ]; go_wp2)
 go_ret
 exact ⟨rfl, rfl⟩
theorem has_kn_a (f t : Int) (w : World) : Calls Try.prog 103 #[.agg #[.int .i64 f, .int .i64 t, .string { data := #[107, 110] }], .int .u8 97] w fun e w' => e = .returned (.bool false) ∧ w.alloc (.cells #[.int .i64 f, .int .i64 t, .string { data := #[107, 110] }] 165) = w' := by
 go_enter Try.func103, Try.ntmps103
 go_wp2
 refine wp_loop_rounds 3 ?_
 iterate 3 (rw [rounds_succ]; go_wp2)
 go_ret
 exact ⟨rfl, rfl⟩
theorem has_kn_b (f t : Int) (w : World) : Calls Try.prog 103 #[.agg #[.int .i64 f, .int .i64 t, .string { data := #[107, 110] }], .int .u8 98] w fun e w' => e = .returned (.bool false) ∧ w.alloc (.cells #[.int .i64 f, .int .i64 t, .string { data := #[107, 110] }] 165) = w' := by
 go_enter Try.func103, Try.ntmps103
 go_wp2
 refine wp_loop_rounds 3 ?_
 iterate 3 (rw [rounds_succ]; go_wp2)
 go_ret
 exact ⟨rfl, rfl⟩
theorem has_kn_g (f t : Int) (w : World) : Calls Try.prog 103 #[.agg #[.int .i64 f, .int .i64 t, .string { data := #[107, 110] }], .int .u8 103] w fun e w' => e = .returned (.bool false) ∧ w.alloc (.cells #[.int .i64 f, .int .i64 t, .string { data := #[107, 110] }] 165) = w' := by
 go_enter Try.func103, Try.ntmps103
 go_wp2
 refine wp_loop_rounds 3 ?_
 iterate 3 (rw [rounds_succ]; go_wp2)
 go_ret
 exact ⟨rfl, rfl⟩
theorem has_kn_c (f t : Int) (w : World) : Calls Try.prog 103 #[.agg #[.int .i64 f, .int .i64 t, .string { data := #[107, 110] }], .int .u8 99] w fun e w' => e = .returned (.bool false) ∧ w.alloc (.cells #[.int .i64 f, .int .i64 t, .string { data := #[107, 110] }] 165) = w' := by
 go_enter Try.func103, Try.ntmps103
 go_wp2
 refine wp_loop_rounds 3 ?_
 iterate 3 (rw [rounds_succ]; go_wp2)
 go_ret
 exact ⟨rfl, rfl⟩
theorem has_gkn_k (f t : Int) (w : World) : Calls Try.prog 103 #[.agg #[.int .i64 f, .int .i64 t, .string { data := #[103, 107, 110] }], .int .u8 107] w fun e w' => e = .returned (.bool true) ∧ w.alloc (.cells #[.int .i64 f, .int .i64 t, .string { data := #[103, 107, 110] }] 165) = w' := by
 go_enter Try.func103, Try.ntmps103
 go_wp2
 refine wp_loop_rounds 2 ?_
 iterate 2 (rw [rounds_succ]; go_wp2)
 go_ret
 exact ⟨rfl, rfl⟩
theorem has_gkn_n (f t : Int) (w : World) : Calls Try.prog 103 #[.agg #[.int .i64 f, .int .i64 t, .string { data := #[103, 107, 110] }], .int .u8 110] w fun e w' => e = .returned (.bool true) ∧ w.alloc (.cells #[.int .i64 f, .int .i64 t, .string { data := #[103, 107, 110] }] 165) = w' := by
 go_enter Try.func103, Try.ntmps103
 go_wp2
 refine wp_loop_rounds 3 ?_
 iterate 3 (rw [rounds_succ]; go_wp2)
 go_ret
 exact ⟨rfl, rfl⟩
theorem has_gkn_a (f t : Int) (w : World) : Calls Try.prog 103 #[.agg #[.int .i64 f, .int .i64 t, .string { data := #[103, 107, 110] }], .int .u8 97] w fun e w' => e = .returned (.bool false) ∧ w.alloc (.cells #[.int .i64 f, .int .i64 t, .string { data := #[103, 107, 110] }] 165) = w' := by
 go_enter Try.func103, Try.ntmps103
 go_wp2
 refine wp_loop_rounds 4 ?_
 iterate 4 (rw [rounds_succ]; go_wp2)
 go_ret
 exact ⟨rfl, rfl⟩
theorem has_gkn_b (f t : Int) (w : World) : Calls Try.prog 103 #[.agg #[.int .i64 f, .int .i64 t, .string { data := #[103, 107, 110] }], .int .u8 98] w fun e w' => e = .returned (.bool false) ∧ w.alloc (.cells #[.int .i64 f, .int .i64 t, .string { data := #[103, 107, 110] }] 165) = w' := by
 go_enter Try.func103, Try.ntmps103
 go_wp2
 refine wp_loop_rounds 4 ?_
 iterate 4 (rw [rounds_succ]; go_wp2)
 go_ret
 exact ⟨rfl, rfl⟩
theorem has_gkn_g (f t : Int) (w : World) : Calls Try.prog 103 #[.agg #[.int .i64 f, .int .i64 t, .string { data := #[103, 107, 110] }], .int .u8 103] w fun e w' => e = .returned (.bool true) ∧ w.alloc (.cells #[.int .i64 f, .int .i64 t, .string { data := #[103, 107, 110] }] 165) = w' := by
 go_enter Try.func103, Try.ntmps103
 go_wp2
 refine wp_loop_rounds 1 ?_
 iterate 1 (rw [rounds_succ]; go_wp2)
 go_ret
 exact ⟨rfl, rfl⟩
theorem has_gkn_c (f t : Int) (w : World) : Calls Try.prog 103 #[.agg #[.int .i64 f, .int .i64 t, .string { data := #[103, 107, 110] }], .int .u8 99] w fun e w' => e = .returned (.bool false) ∧ w.alloc (.cells #[.int .i64 f, .int .i64 t, .string { data := #[103, 107, 110] }] 165) = w' := by
 go_enter Try.func103, Try.ntmps103
 go_wp2
 refine wp_loop_rounds 4 ?_
 iterate 4 (rw [rounds_succ]; go_wp2)
 go_ret
 exact ⟨rfl, rfl⟩
theorem has_an_k (f t : Int) (w : World) : Calls Try.prog 103 #[.agg #[.int .i64 f, .int .i64 t, .string { data := #[97, 110] }], .int .u8 107] w fun e w' => e = .returned (.bool false) ∧ w.alloc (.cells #[.int .i64 f, .int .i64 t, .string { data := #[97, 110] }] 165) = w' := by
 go_enter Try.func103, Try.ntmps103
 go_wp2
 refine wp_loop_rounds 3 ?_
 iterate 3 (rw [rounds_succ]; go_wp2)
 go_ret
 exact ⟨rfl, rfl⟩
theorem has_an_n (f t : Int) (w : World) : Calls Try.prog 103 #[.agg #[.int .i64 f, .int .i64 t, .string { data := #[97, 110] }], .int .u8 110] w fun e w' => e = .returned (.bool true) ∧ w.alloc (.cells #[.int .i64 f, .int .i64 t, .string { data := #[97, 110] }] 165) = w' := by
 go_enter Try.func103, Try.ntmps103
 go_wp2
 refine wp_loop_rounds 2 ?_
 iterate 2 (rw [rounds_succ]; go_wp2)
 go_ret
 exact ⟨rfl, rfl⟩
theorem has_an_a (f t : Int) (w : World) : Calls Try.prog 103 #[.agg #[.int .i64 f, .int .i64 t, .string { data := #[97, 110] }], .int .u8 97] w fun e w' => e = .returned (.bool true) ∧ w.alloc (.cells #[.int .i64 f, .int .i64 t, .string { data := #[97, 110] }] 165) = w' := by
 go_enter Try.func103, Try.ntmps103
 go_wp2
 refine wp_loop_rounds 1 ?_
 iterate 1 (rw [rounds_succ]; go_wp2)
 go_ret
 exact ⟨rfl, rfl⟩
theorem has_an_b (f t : Int) (w : World) : Calls Try.prog 103 #[.agg #[.int .i64 f, .int .i64 t, .string { data := #[97, 110] }], .int .u8 98] w fun e w' => e = .returned (.bool false) ∧ w.alloc (.cells #[.int .i64 f, .int .i64 t, .string { data := #[97, 110] }] 165) = w' := by
 go_enter Try.func103, Try.ntmps103
 go_wp2
 refine wp_loop_rounds 3 ?_
 iterate 3 (rw [rounds_succ]; go_wp2)
 go_ret
 exact ⟨rfl, rfl⟩
theorem has_an_g (f t : Int) (w : World) : Calls Try.prog 103 #[.agg #[.int .i64 f, .int .i64 t, .string { data := #[97, 110] }], .int .u8 103] w fun e w' => e = .returned (.bool false) ∧ w.alloc (.cells #[.int .i64 f, .int .i64 t, .string { data := #[97, 110] }] 165) = w' := by
 go_enter Try.func103, Try.ntmps103
 go_wp2
 refine wp_loop_rounds 3 ?_
 iterate 3 (rw [rounds_succ]; go_wp2)
 go_ret
 exact ⟨rfl, rfl⟩
theorem has_an_c (f t : Int) (w : World) : Calls Try.prog 103 #[.agg #[.int .i64 f, .int .i64 t, .string { data := #[97, 110] }], .int .u8 99] w fun e w' => e = .returned (.bool false) ∧ w.alloc (.cells #[.int .i64 f, .int .i64 t, .string { data := #[97, 110] }] 165) = w' := by
 go_enter Try.func103, Try.ntmps103
 go_wp2
 refine wp_loop_rounds 3 ?_
 iterate 3 (rw [rounds_succ]; go_wp2)
 go_ret
 exact ⟨rfl, rfl⟩
end Go.Proofs.Ytkgbjpdoigdjnaa
