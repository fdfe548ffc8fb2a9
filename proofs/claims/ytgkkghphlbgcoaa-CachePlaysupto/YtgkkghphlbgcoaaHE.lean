import Derived.Test.YtgkkghphlbgcoaaHA
namespace Go.Proofs.Ytgkkghphlbgcoaa.Ho
open Go.RowKit
set_option maxRecDepth 100000
set_option linter.unusedVariables false
set_option linter.unusedSimpArgs false
def hasB (s : Array UInt8) (c : Nat) : Bool := s.toList.any (fun x => x.toNat == c)
theorem has__d (w : World) : Calls Try.prog 53 #[.string ⟨#[]⟩, .int .u8 100] w fun e w' => e = .returned (.bool false) ∧ w = w' := by
  go_enter Try.func53, Try.ntmps53
  go_wp2
  refine wp_loop_rounds 1 ?_
  iterate 1 (rw [rounds_succ]; go_wp2)
  go_ret
  exact ⟨rfl, rfl⟩
theorem has__a (w : World) : Calls Try.prog 53 #[.string ⟨#[]⟩, .int .u8 97] w fun e w' => e = .returned (.bool false) ∧ w = w' := by
  go_enter Try.func53, Try.ntmps53
  go_wp2
  refine wp_loop_rounds 1 ?_
  iterate 1 (rw [rounds_succ]; go_wp2)
  go_ret
  exact ⟨rfl, rfl⟩
theorem has__b (w : World) : Calls Try.prog 53 #[.string ⟨#[]⟩, .int .u8 98] w fun e w' => e = .returned (.bool false) ∧ w = w' := by
  go_enter Try.func53, Try.ntmps53
  go_wp2
  refine wp_loop_rounds 1 ?_
  iterate 1 (rw [rounds_succ]; go_wp2)
  go_ret
  exact ⟨rfl, rfl⟩
theorem has__c (w : World) : Calls Try.prog 53 #[.string ⟨#[]⟩, .int .u8 99] w fun e w' => e = .returned (.bool false) ∧ w = w' := by
  go_enter Try.func53, Try.ntmps53
  go_wp2
  refine wp_loop_rounds 1 ?_
  iterate 1 (rw [rounds_succ]; go_wp2)
  go_ret
  exact ⟨rfl, rfl⟩
theorem has__n (w : World) : Calls Try.prog 53 #[.string ⟨#[]⟩, .int .u8 110] w fun e w' => e = .returned (.bool false) ∧ w = w' := by
  go_enter Try.func53, Try.ntmps53
  go_wp2
  refine wp_loop_rounds 1 ?_
  iterate 1 (rw [rounds_succ]; go_wp2)
  go_ret
  exact ⟨rfl, rfl⟩
theorem has_n_d (w : World) : Calls Try.prog 53 #[.string ⟨#[110]⟩, .int .u8 100] w fun e w' => e = .returned (.bool false) ∧ w = w' := by
  go_enter Try.func53, Try.ntmps53
  go_wp2
  refine wp_loop_rounds 2 ?_
  iterate 2 (rw [rounds_succ]; go_wp2)
  go_ret
  exact ⟨rfl, rfl⟩
theorem has_n_a (w : World) : Calls Try.prog 53 #[.string ⟨#[110]⟩, .int .u8 97] w fun e w' => e = .returned (.bool false) ∧ w = w' := by
  go_enter Try.func53, Try.ntmps53
  go_wp2
  refine wp_loop_rounds 2 ?_
  iterate 2 (rw [rounds_succ]; go_wp2)
  go_ret
  exact ⟨rfl, rfl⟩
theorem has_n_b (w : World) : Calls Try.prog 53 #[.string ⟨#[110]⟩, .int .u8 98] w fun e w' => e = .returned (.bool false) ∧ w = w' := by
  go_enter Try.func53, Try.ntmps53
  go_wp2
  refine wp_loop_rounds 2 ?_
  iterate 2 (rw [rounds_succ]; go_wp2)
  go_ret
  exact ⟨rfl, rfl⟩
theorem has_n_c (w : World) : Calls Try.prog 53 #[.string ⟨#[110]⟩, .int .u8 99] w fun e w' => e = .returned (.bool false) ∧ w = w' := by
  go_enter Try.func53, Try.ntmps53
  go_wp2
  refine wp_loop_rounds 2 ?_
  iterate 2 (rw [rounds_succ]; go_wp2)
  go_ret
  exact ⟨rfl, rfl⟩
theorem has_n_n (w : World) : Calls Try.prog 53 #[.string ⟨#[110]⟩, .int .u8 110] w fun e w' => e = .returned (.bool true) ∧ w = w' := by
  go_enter Try.func53, Try.ntmps53
  go_wp2
  refine wp_loop_rounds 1 ?_
  iterate 1 (rw [rounds_succ]; go_wp2)
  go_ret
  exact ⟨rfl, rfl⟩
theorem has_d_d (w : World) : Calls Try.prog 53 #[.string ⟨#[100]⟩, .int .u8 100] w fun e w' => e = .returned (.bool true) ∧ w = w' := by
  go_enter Try.func53, Try.ntmps53
  go_wp2
  refine wp_loop_rounds 1 ?_
  iterate 1 (rw [rounds_succ]; go_wp2)
  go_ret
  exact ⟨rfl, rfl⟩
theorem has_d_a (w : World) : Calls Try.prog 53 #[.string ⟨#[100]⟩, .int .u8 97] w fun e w' => e = .returned (.bool false) ∧ w = w' := by
  go_enter Try.func53, Try.ntmps53
  go_wp2
  refine wp_loop_rounds 2 ?_
  iterate 2 (rw [rounds_succ]; go_wp2)
  go_ret
  exact ⟨rfl, rfl⟩
theorem has_d_b (w : World) : Calls Try.prog 53 #[.string ⟨#[100]⟩, .int .u8 98] w fun e w' => e = .returned (.bool false) ∧ w = w' := by
  go_enter Try.func53, Try.ntmps53
  go_wp2
  refine wp_loop_rounds 2 ?_
  iterate 2 (rw [rounds_succ]; go_wp2)
  go_ret
  exact ⟨rfl, rfl⟩
theorem has_d_c (w : World) : Calls Try.prog 53 #[.string ⟨#[100]⟩, .int .u8 99] w fun e w' => e = .returned (.bool false) ∧ w = w' := by
  go_enter Try.func53, Try.ntmps53
  go_wp2
  refine wp_loop_rounds 2 ?_
  iterate 2 (rw [rounds_succ]; go_wp2)
  go_ret
  exact ⟨rfl, rfl⟩
theorem has_d_n (w : World) : Calls Try.prog 53 #[.string ⟨#[100]⟩, .int .u8 110] w fun e w' => e = .returned (.bool false) ∧ w = w' := by
  go_enter Try.func53, Try.ntmps53
  go_wp2
  refine wp_loop_rounds 2 ?_
  iterate 2 (rw [rounds_succ]; go_wp2)
  go_ret
  exact ⟨rfl, rfl⟩
theorem has_da_d (w : World) : Calls Try.prog 53 #[.string ⟨#[100, 97]⟩, .int .u8 100] w fun e w' => e = .returned (.bool true) ∧ w = w' := by
  go_enter Try.func53, Try.ntmps53
  go_wp2
  refine wp_loop_rounds 1 ?_
  iterate 1 (rw [rounds_succ]; go_wp2)
  go_ret
  exact ⟨rfl, rfl⟩
theorem has_da_a (w : World) : Calls Try.prog 53 #[.string ⟨#[100, 97]⟩, .int .u8 97] w fun e w' => e = .returned (.bool true) ∧ w = w' := by
  go_enter Try.func53, Try.ntmps53
  go_wp2
  refine wp_loop_rounds 2 ?_
  iterate 2 (rw [rounds_succ]; go_wp2)
  go_ret
  exact ⟨rfl, rfl⟩
theorem has_da_b (w : World) : Calls Try.prog 53 #[.string ⟨#[100, 97]⟩, .int .u8 98] w fun e w' => e = .returned (.bool false) ∧ w = w' := by
  go_enter Try.func53, Try.ntmps53
  go_wp2
  refine wp_loop_rounds 3 ?_
  iterate 3 (rw [rounds_succ]; go_wp2)
  go_ret
  exact ⟨rfl, rfl⟩
theorem has_da_c (w : World) : Calls Try.prog 53 #[.string ⟨#[100, 97]⟩, .int .u8 99] w fun e w' => e = .returned (.bool false) ∧ w = w' := by
  go_enter Try.func53, Try.ntmps53
  go_wp2
  refine wp_loop_rounds 3 ?_
  iterate 3 (rw [rounds_succ]; go_wp2)
  go_ret
  exact ⟨rfl, rfl⟩
theorem has_da_n (w : World) : Calls Try.prog 53 #[.string ⟨#[100, 97]⟩, .int .u8 110] w fun e w' => e = .returned (.bool false) ∧ w = w' := by
  go_enter Try.func53, Try.ntmps53
  go_wp2
  refine wp_loop_rounds 3 ?_
  iterate 3 (rw [rounds_succ]; go_wp2)
  go_ret
  exact ⟨rfl, rfl⟩
theorem has_an_d (w : World) : Calls Try.prog 53 #[.string ⟨#[97, 110]⟩, .int .u8 100] w fun e w' => e = .returned (.bool false) ∧ w = w' := by
  go_enter Try.func53, Try.ntmps53
  go_wp2
  refine wp_loop_rounds 3 ?_
  iterate 3 (rw [rounds_succ]; go_wp2)
  go_ret
  exact ⟨rfl, rfl⟩
theorem has_an_a (w : World) : Calls Try.prog 53 #[.string ⟨#[97, 110]⟩, .int .u8 97] w fun e w' => e = .returned (.bool true) ∧ w = w' := by
  go_enter Try.func53, Try.ntmps53
  go_wp2
  refine wp_loop_rounds 1 ?_
  iterate 1 (rw [rounds_succ]; go_wp2)
  go_ret
  exact ⟨rfl, rfl⟩
theorem has_an_b (w : World) : Calls Try.prog 53 #[.string ⟨#[97, 110]⟩, .int .u8 98] w fun e w' => e = .returned (.bool false) ∧ w = w' := by
  go_enter Try.func53, Try.ntmps53
  go_wp2
  refine wp_loop_rounds 3 ?_
  iterate 3 (rw [rounds_succ]; go_wp2)
  go_ret
  exact ⟨rfl, rfl⟩
theorem has_an_c (w : World) : Calls Try.prog 53 #[.string ⟨#[97, 110]⟩, .int .u8 99] w fun e w' => e = .returned (.bool false) ∧ w = w' := by
  go_enter Try.func53, Try.ntmps53
  go_wp2
  refine wp_loop_rounds 3 ?_
  iterate 3 (rw [rounds_succ]; go_wp2)
  go_ret
  exact ⟨rfl, rfl⟩
theorem has_an_n (w : World) : Calls Try.prog 53 #[.string ⟨#[97, 110]⟩, .int .u8 110] w fun e w' => e = .returned (.bool true) ∧ w = w' := by
  go_enter Try.func53, Try.ntmps53
  go_wp2
  refine wp_loop_rounds 2 ?_
  iterate 2 (rw [rounds_succ]; go_wp2)
  go_ret
  exact ⟨rfl, rfl⟩
theorem has_dabc_d (w : World) : Calls Try.prog 53 #[.string ⟨#[100, 97, 98, 99]⟩, .int .u8 100] w fun e w' => e = .returned (.bool true) ∧ w = w' := by
  go_enter Try.func53, Try.ntmps53
  go_wp2
  refine wp_loop_rounds 1 ?_
  iterate 1 (rw [rounds_succ]; go_wp2)
  go_ret
  exact ⟨rfl, rfl⟩
theorem has_dabc_a (w : World) : Calls Try.prog 53 #[.string ⟨#[100, 97, 98, 99]⟩, .int .u8 97] w fun e w' => e = .returned (.bool true) ∧ w = w' := by
  go_enter Try.func53, Try.ntmps53
  go_wp2
  refine wp_loop_rounds 2 ?_
  iterate 2 (rw [rounds_succ]; go_wp2)
  go_ret
  exact ⟨rfl, rfl⟩
theorem has_dabc_b (w : World) : Calls Try.prog 53 #[.string ⟨#[100, 97, 98, 99]⟩, .int .u8 98] w fun e w' => e = .returned (.bool true) ∧ w = w' := by
  go_enter Try.func53, Try.ntmps53
  go_wp2
  refine wp_loop_rounds 3 ?_
  iterate 3 (rw [rounds_succ]; go_wp2)
  go_ret
  exact ⟨rfl, rfl⟩
theorem has_dabc_c (w : World) : Calls Try.prog 53 #[.string ⟨#[100, 97, 98, 99]⟩, .int .u8 99] w fun e w' => e = .returned (.bool true) ∧ w = w' := by
  go_enter Try.func53, Try.ntmps53
  go_wp2
  refine wp_loop_rounds 4 ?_
  iterate 4 (rw [rounds_succ]; go_wp2)
  go_ret
  exact ⟨rfl, rfl⟩
theorem has_dabc_n (w : World) : Calls Try.prog 53 #[.string ⟨#[100, 97, 98, 99]⟩, .int .u8 110] w fun e w' => e = .returned (.bool false) ∧ w = w' := by
  go_enter Try.func53, Try.ntmps53
  go_wp2
  refine wp_loop_rounds 5 ?_
  iterate 5 (rw [rounds_succ]; go_wp2)
  go_ret
  exact ⟨rfl, rfl⟩
theorem has_dn_d (w : World) : Calls Try.prog 53 #[.string ⟨#[100, 110]⟩, .int .u8 100] w fun e w' => e = .returned (.bool true) ∧ w = w' := by
  go_enter Try.func53, Try.ntmps53
  go_wp2
  refine wp_loop_rounds 1 ?_
  iterate 1 (rw [rounds_succ]; go_wp2)
  go_ret
  exact ⟨rfl, rfl⟩
theorem has_dn_a (w : World) : Calls Try.prog 53 #[.string ⟨#[100, 110]⟩, .int .u8 97] w fun e w' => e = .returned (.bool false) ∧ w = w' := by
  go_enter Try.func53, Try.ntmps53
  go_wp2
  refine wp_loop_rounds 3 ?_
  iterate 3 (rw [rounds_succ]; go_wp2)
  go_ret
  exact ⟨rfl, rfl⟩
theorem has_dn_b (w : World) : Calls Try.prog 53 #[.string ⟨#[100, 110]⟩, .int .u8 98] w fun e w' => e = .returned (.bool false) ∧ w = w' := by
  go_enter Try.func53, Try.ntmps53
  go_wp2
  refine wp_loop_rounds 3 ?_
  iterate 3 (rw [rounds_succ]; go_wp2)
  go_ret
  exact ⟨rfl, rfl⟩
theorem has_dn_c (w : World) : Calls Try.prog 53 #[.string ⟨#[100, 110]⟩, .int .u8 99] w fun e w' => e = .returned (.bool false) ∧ w = w' := by
  go_enter Try.func53, Try.ntmps53
  go_wp2
  refine wp_loop_rounds 3 ?_
  iterate 3 (rw [rounds_succ]; go_wp2)
  go_ret
  exact ⟨rfl, rfl⟩
theorem has_dn_n (w : World) : Calls Try.prog 53 #[.string ⟨#[100, 110]⟩, .int .u8 110] w fun e w' => e = .returned (.bool true) ∧ w = w' := by
  go_enter Try.func53, Try.ntmps53
  go_wp2
  refine wp_loop_rounds 2 ?_
  iterate 2 (rw [rounds_succ]; go_wp2)
  go_ret
  exact ⟨rfl, rfl⟩
theorem has_dan_d (w : World) : Calls Try.prog 53 #[.string ⟨#[100, 97, 110]⟩, .int .u8 100] w fun e w' => e = .returned (.bool true) ∧ w = w' := by
  go_enter Try.func53, Try.ntmps53
  go_wp2
  refine wp_loop_rounds 1 ?_
  iterate 1 (rw [rounds_succ]; go_wp2)
  go_ret
  exact ⟨rfl, rfl⟩
theorem has_dan_a (w : World) : Calls Try.prog 53 #[.string ⟨#[100, 97, 110]⟩, .int .u8 97] w fun e w' => e = .returned (.bool true) ∧ w = w' := by
  go_enter Try.func53, Try.ntmps53
  go_wp2
  refine wp_loop_rounds 2 ?_
  iterate 2 (rw [rounds_succ]; go_wp2)
  go_ret
  exact ⟨rfl, rfl⟩
theorem has_dan_b (w : World) : Calls Try.prog 53 #[.string ⟨#[100, 97, 110]⟩, .int .u8 98] w fun e w' => e = .returned (.bool false) ∧ w = w' := by
  go_enter Try.func53, Try.ntmps53
  go_wp2
  refine wp_loop_rounds 4 ?_
  iterate 4 (rw [rounds_succ]; go_wp2)
  go_ret
  exact ⟨rfl, rfl⟩
theorem has_dan_c (w : World) : Calls Try.prog 53 #[.string ⟨#[100, 97, 110]⟩, .int .u8 99] w fun e w' => e = .returned (.bool false) ∧ w = w' := by
  go_enter Try.func53, Try.ntmps53
  go_wp2
  refine wp_loop_rounds 4 ?_
  iterate 4 (rw [rounds_succ]; go_wp2)
  go_ret
  exact ⟨rfl, rfl⟩
theorem has_dan_n (w : World) : Calls Try.prog 53 #[.string ⟨#[100, 97, 110]⟩, .int .u8 110] w fun e w' => e = .returned (.bool true) ∧ w = w' := by
  go_enter Try.func53, Try.ntmps53
  go_wp2
  refine wp_loop_rounds 3 ?_
  iterate 3 (rw [rounds_succ]; go_wp2)
  go_ret
  exact ⟨rfl, rfl⟩
theorem has_dab_d (w : World) : Calls Try.prog 53 #[.string ⟨#[100, 97, 98]⟩, .int .u8 100] w fun e w' => e = .returned (.bool true) ∧ w = w' := by
  go_enter Try.func53, Try.ntmps53
  go_wp2
  refine wp_loop_rounds 1 ?_
  iterate 1 (rw [rounds_succ]; go_wp2)
  go_ret
  exact ⟨rfl, rfl⟩
theorem has_dab_a (w : World) : Calls Try.prog 53 #[.string ⟨#[100, 97, 98]⟩, .int .u8 97] w fun e w' => e = .returned (.bool true) ∧ w = w' := by
  go_enter Try.func53, Try.ntmps53
  go_wp2
  refine wp_loop_rounds 2 ?_
  iterate 2 (rw [rounds_succ]; go_wp2)
  go_ret
  exact ⟨rfl, rfl⟩
theorem has_dab_b (w : World) : Calls Try.prog 53 #[.string ⟨#[100, 97, 98]⟩, .int .u8 98] w fun e w' => e = .returned (.bool true) ∧ w = w' := by
  go_enter Try.func53, Try.ntmps53
  go_wp2
  refine wp_loop_rounds 3 ?_
  iterate 3 (rw [rounds_succ]; go_wp2)
  go_ret
  exact ⟨rfl, rfl⟩
theorem has_dab_c (w : World) : Calls Try.prog 53 #[.string ⟨#[100, 97, 98]⟩, .int .u8 99] w fun e w' => e = .returned (.bool false) ∧ w = w' := by
  go_enter Try.func53, Try.ntmps53
  go_wp2
  refine wp_loop_rounds 4 ?_
  iterate 4 (rw [rounds_succ]; go_wp2)
  go_ret
  exact ⟨rfl, rfl⟩
theorem has_dab_n (w : World) : Calls Try.prog 53 #[.string ⟨#[100, 97, 98]⟩, .int .u8 110] w fun e w' => e = .returned (.bool false) ∧ w = w' := by
  go_enter Try.func53, Try.ntmps53
  go_wp2
  refine wp_loop_rounds 4 ?_
  iterate 4 (rw [rounds_succ]; go_wp2)
  go_ret
  exact ⟨rfl, rfl⟩
def goodS (s : Array UInt8) : Prop := s = #[] ∨ s = #[110] ∨ s = #[100] ∨ s = #[100, 97] ∨ s = #[97, 110] ∨ s = #[100, 97, 98, 99] ∨ s = #[100, 110] ∨ s = #[100, 97, 110] ∨ s = #[100, 97, 98]
theorem hasA_d (s : Array UInt8) (hs : goodS s) (w : World) : Calls Try.prog 53 #[.string ⟨s⟩, .int .u8 100] w fun e w' => e = .returned (.bool (hasB s 100)) ∧ w = w' := by
  rcases hs with rfl | rfl | rfl | rfl | rfl | rfl | rfl | rfl | rfl
  · exact has__d w
  · exact has_n_d w
  · exact has_d_d w
  · exact has_da_d w
  · exact has_an_d w
  · exact has_dabc_d w
  · exact has_dn_d w
  · exact has_dan_d w
  · exact has_dab_d w
theorem hasA_a (s : Array UInt8) (hs : goodS s) (w : World) : Calls Try.prog 53 #[.string ⟨s⟩, .int .u8 97] w fun e w' => e = .returned (.bool (hasB s 97)) ∧ w = w' := by
  rcases hs with rfl | rfl | rfl | rfl | rfl | rfl | rfl | rfl | rfl
  · exact has__a w
  · exact has_n_a w
  · exact has_d_a w
  · exact has_da_a w
  · exact has_an_a w
  · exact has_dabc_a w
  · exact has_dn_a w
  · exact has_dan_a w
  · exact has_dab_a w
theorem hasA_b (s : Array UInt8) (hs : goodS s) (w : World) : Calls Try.prog 53 #[.string ⟨s⟩, .int .u8 98] w fun e w' => e = .returned (.bool (hasB s 98)) ∧ w = w' := by
  rcases hs with rfl | rfl | rfl | rfl | rfl | rfl | rfl | rfl | rfl
  · exact has__b w
  · exact has_n_b w
  · exact has_d_b w
  · exact has_da_b w
  · exact has_an_b w
  · exact has_dabc_b w
  · exact has_dn_b w
  · exact has_dan_b w
  · exact has_dab_b w
theorem hasA_c (s : Array UInt8) (hs : goodS s) (w : World) : Calls Try.prog 53 #[.string ⟨s⟩, .int .u8 99] w fun e w' => e = .returned (.bool (hasB s 99)) ∧ w = w' := by
  rcases hs with rfl | rfl | rfl | rfl | rfl | rfl | rfl | rfl | rfl
  · exact has__c w
  · exact has_n_c w
  · exact has_d_c w
  · exact has_da_c w
  · exact has_an_c w
  · exact has_dabc_c w
  · exact has_dn_c w
  · exact has_dan_c w
  · exact has_dab_c w
theorem hasA_n (s : Array UInt8) (hs : goodS s) (w : World) : Calls Try.prog 53 #[.string ⟨s⟩, .int .u8 110] w fun e w' => e = .returned (.bool (hasB s 110)) ∧ w = w' := by
  rcases hs with rfl | rfl | rfl | rfl | rfl | rfl | rfl | rfl | rfl
  · exact has__n w
  · exact has_n_n w
  · exact has_d_n w
  · exact has_da_n w
  · exact has_an_n w
  · exact has_dabc_n w
  · exact has_dn_n w
  · exact has_dan_n w
  · exact has_dab_n w
theorem retu {a b : Int} (h : a = b) : Ending.returned (.int .u32 a) = .returned (.int .u32 b) := by rw [h]
structure Cd where
  op : Int
  d : Int
  a : Int
  b : Int
  c : Int
  n : Int
  k : Nat
  x : Nat
  deriving DecidableEq
abbrev cdA (x : Cd) : Array Value := #[.int .i64 x.op, .int .i64 x.d, .int .i64 x.a, .int .i64 x.b, .int .i64 x.c, .int .i64 x.n, .int .u32 x.k, .int .u32 x.x]
abbrev cdV (x : Cd) : Value := .agg (cdA x)
/-- The first word of an instruction. -/
def fst (x : Cd) : Int := (x.op + 256 * x.d + 4096 * x.a + 65536 * x.b + 1048576 * x.c + 65536 * x.n) % 4294967296
theorem first_any (x : Cd) (w : World) : Calls Try.prog 36 #[cdV x] w fun e w' => e = .returned (.int .u32 (fst x)) ∧ w.alloc (.cells (cdA x) 41) = w' := by
  obtain ⟨op, d, a, b, c, n, k, y⟩ := x
  go_enter Try.func36, Try.ntmps36
  go_wp2
  go_ret
  exact ⟨retu (by unfold fst; simp only []; omega), rfl⟩
end Go.Proofs.Ytgkkghphlbgcoaa.Ho
