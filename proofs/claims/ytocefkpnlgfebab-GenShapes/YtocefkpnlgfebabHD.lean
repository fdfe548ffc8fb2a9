import Derived.Test.YtocefkpnlgfebabHA
import Derived.Laws.EntriesVeiled
import Derived.Test.YtocefkpnlgfebabHB
namespace Go.Proofs.Ytocefkpnlgfebab.Ho
open Go.RowKit
set_option maxRecDepth 100000
set_option linter.unusedVariables false
set_option linter.unusedSimpArgs false
def hasB (s : Array UInt8) (c : Nat) : Bool := s.toList.any (fun x => x.toNat == c)
theorem has__d (w : World) : Calls Try.prog 59 #[.string ⟨#[]⟩, .int .u8 100] w fun e w' => e = .returned (.bool false) ∧ w = w' := by
  go_enter Try.func59, Try.ntmps59
  go_wp2
  refine wp_loop_rounds 1 ?_
  iterate 1 (rw [rounds_succ]; go_wp2)
  go_ret
  exact ⟨rfl, rfl⟩
theorem has__a (w : World) : Calls Try.prog 59 #[.string ⟨#[]⟩, .int .u8 97] w fun e w' => e = .returned (.bool false) ∧ w = w' := by
  go_enter Try.func59, Try.ntmps59
  go_wp2
  refine wp_loop_rounds 1 ?_
  iterate 1 (rw [rounds_succ]; go_wp2)
  go_ret
  exact ⟨rfl, rfl⟩
theorem has__b (w : World) : Calls Try.prog 59 #[.string ⟨#[]⟩, .int .u8 98] w fun e w' => e = .returned (.bool false) ∧ w = w' := by
  go_enter Try.func59, Try.ntmps59
  go_wp2
  refine wp_loop_rounds 1 ?_
  iterate 1 (rw [rounds_succ]; go_wp2)
  go_ret
  exact ⟨rfl, rfl⟩
theorem has__c (w : World) : Calls Try.prog 59 #[.string ⟨#[]⟩, .int .u8 99] w fun e w' => e = .returned (.bool false) ∧ w = w' := by
  go_enter Try.func59, Try.ntmps59
  go_wp2
  refine wp_loop_rounds 1 ?_
  iterate 1 (rw [rounds_succ]; go_wp2)
  go_ret
  exact ⟨rfl, rfl⟩
theorem has__n (w : World) : Calls Try.prog 59 #[.string ⟨#[]⟩, .int .u8 110] w fun e w' => e = .returned (.bool false) ∧ w = w' := by
  go_enter Try.func59, Try.ntmps59
  go_wp2
  refine wp_loop_rounds 1 ?_
  iterate 1 (rw [rounds_succ]; go_wp2)
  go_ret
  exact ⟨rfl, rfl⟩
theorem has_n_d (w : World) : Calls Try.prog 59 #[.string ⟨#[110]⟩, .int .u8 100] w fun e w' => e = .returned (.bool false) ∧ w = w' := by
  go_enter Try.func59, Try.ntmps59
  go_wp2
  refine wp_loop_rounds 2 ?_
  iterate 2 (rw [rounds_succ]; go_wp2)
  go_ret
  exact ⟨rfl, rfl⟩
theorem has_n_a (w : World) : Calls Try.prog 59 #[.string ⟨#[110]⟩, .int .u8 97] w fun e w' => e = .returned (.bool false) ∧ w = w' := by
  go_enter Try.func59, Try.ntmps59
  go_wp2
  refine wp_loop_rounds 2 ?_
  iterate 2 (rw [rounds_succ]; go_wp2)
  go_ret
  exact ⟨rfl, rfl⟩
theorem has_n_b (w : World) : Calls Try.prog 59 #[.string ⟨#[110]⟩, .int .u8 98] w fun e w' => e = .returned (.bool false) ∧ w = w' := by
  go_enter Try.func59, Try.ntmps59
  go_wp2
  refine wp_loop_rounds 2 ?_
  iterate 2 (rw [rounds_succ]; go_wp2)
  go_ret
  exact ⟨rfl, rfl⟩
theorem has_n_c (w : World) : Calls Try.prog 59 #[.string ⟨#[110]⟩, .int .u8 99] w fun e w' => e = .returned (.bool false) ∧ w = w' := by
  go_enter Try.func59, Try.ntmps59
  go_wp2
  refine wp_loop_rounds 2 ?_
  iterate 2 (rw [rounds_succ]; go_wp2)
  go_ret
  exact ⟨rfl, rfl⟩
theorem has_n_n (w : World) : Calls Try.prog 59 #[.string ⟨#[110]⟩, .int .u8 110] w fun e w' => e = .returned (.bool true) ∧ w = w' := by
  go_enter Try.func59, Try.ntmps59
  go_wp2
  refine wp_loop_rounds 1 ?_
  iterate 1 (rw [rounds_succ]; go_wp2)
  go_ret
  exact ⟨rfl, rfl⟩
theorem has_d_d (w : World) : Calls Try.prog 59 #[.string ⟨#[100]⟩, .int .u8 100] w fun e w' => e = .returned (.bool true) ∧ w = w' := by
  go_enter Try.func59, Try.ntmps59
  go_wp2
  refine wp_loop_rounds 1 ?_
  iterate 1 (rw [rounds_succ]; go_wp2)
  go_ret
  exact ⟨rfl, rfl⟩
theorem has_d_a (w : World) : Calls Try.prog 59 #[.string ⟨#[100]⟩, .int .u8 97] w fun e w' => e = .returned (.bool false) ∧ w = w' := by
  go_enter Try.func59, Try.ntmps59
  go_wp2
  refine wp_loop_rounds 2 ?_
  iterate 2 (rw [rounds_succ]; go_wp2)
  go_ret
  exact ⟨rfl, rfl⟩
theorem has_d_b (w : World) : Calls Try.prog 59 #[.string ⟨#[100]⟩, .int .u8 98] w fun e w' => e = .returned (.bool false) ∧ w = w' := by
  go_enter Try.func59, Try.ntmps59
  go_wp2
  refine wp_loop_rounds 2 ?_
  iterate 2 (rw [rounds_succ]; go_wp2)
  go_ret
  exact ⟨rfl, rfl⟩
theorem has_d_c (w : World) : Calls Try.prog 59 #[.string ⟨#[100]⟩, .int .u8 99] w fun e w' => e = .returned (.bool false) ∧ w = w' := by
  go_enter Try.func59, Try.ntmps59
  go_wp2
  refine wp_loop_rounds 2 ?_
  iterate 2 (rw [rounds_succ]; go_wp2)
  go_ret
  exact ⟨rfl, rfl⟩
theorem has_d_n (w : World) : Calls Try.prog 59 #[.string ⟨#[100]⟩, .int .u8 110] w fun e w' => e = .returned (.bool false) ∧ w = w' := by
  go_enter Try.func59, Try.ntmps59
  go_wp2
  refine wp_loop_rounds 2 ?_
  iterate 2 (rw [rounds_succ]; go_wp2)
  go_ret
  exact ⟨rfl, rfl⟩
theorem has_da_d (w : World) : Calls Try.prog 59 #[.string ⟨#[100, 97]⟩, .int .u8 100] w fun e w' => e = .returned (.bool true) ∧ w = w' := by
  go_enter Try.func59, Try.ntmps59
  go_wp2
  refine wp_loop_rounds 1 ?_
  iterate 1 (rw [rounds_succ]; go_wp2)
  go_ret
  exact ⟨rfl, rfl⟩
theorem has_da_a (w : World) : Calls Try.prog 59 #[.string ⟨#[100, 97]⟩, .int .u8 97] w fun e w' => e = .returned (.bool true) ∧ w = w' := by
  go_enter Try.func59, Try.ntmps59
  go_wp2
  refine wp_loop_rounds 2 ?_
  iterate 2 (rw [rounds_succ]; go_wp2)
  go_ret
  exact ⟨rfl, rfl⟩
theorem has_da_b (w : World) : Calls Try.prog 59 #[.string ⟨#[100, 97]⟩, .int .u8 98] w fun e w' => e = .returned (.bool false) ∧ w = w' := by
  go_enter Try.func59, Try.ntmps59
  go_wp2
  refine wp_loop_rounds 3 ?_
  iterate 3 (rw [rounds_succ]; go_wp2)
  go_ret
  exact ⟨rfl, rfl⟩
theorem has_da_c (w : World) : Calls Try.prog 59 #[.string ⟨#[100, 97]⟩, .int .u8 99] w fun e w' => e = .returned (.bool false) ∧ w = w' := by
  go_enter Try.func59, Try.ntmps59
  go_wp2
  refine wp_loop_rounds 3 ?_
  iterate 3 (rw [rounds_succ]; go_wp2)
  go_ret
  exact ⟨rfl, rfl⟩
theorem has_da_n (w : World) : Calls Try.prog 59 #[.string ⟨#[100, 97]⟩, .int .u8 110] w fun e w' => e = .returned (.bool false) ∧ w = w' := by
  go_enter Try.func59, Try.ntmps59
  go_wp2
  refine wp_loop_rounds 3 ?_
  iterate 3 (rw [rounds_succ]; go_wp2)
  go_ret
  exact ⟨rfl, rfl⟩
theorem has_an_d (w : World) : Calls Try.prog 59 #[.string ⟨#[97, 110]⟩, .int .u8 100] w fun e w' => e = .returned (.bool false) ∧ w = w' := by
  go_enter Try.func59, Try.ntmps59
  go_wp2
  refine wp_loop_rounds 3 ?_
  iterate 3 (rw [rounds_succ]; go_wp2)
  go_ret
  exact ⟨rfl, rfl⟩
theorem has_an_a (w : World) : Calls Try.prog 59 #[.string ⟨#[97, 110]⟩, .int .u8 97] w fun e w' => e = .returned (.bool true) ∧ w = w' := by
  go_enter Try.func59, Try.ntmps59
  go_wp2
  refine wp_loop_rounds 1 ?_
  iterate 1 (rw [rounds_succ]; go_wp2)
  go_ret
  exact ⟨rfl, rfl⟩
theorem has_an_b (w : World) : Calls Try.prog 59 #[.string ⟨#[97, 110]⟩, .int .u8 98] w fun e w' => e = .returned (.bool false) ∧ w = w' := by
  go_enter Try.func59, Try.ntmps59
  go_wp2
  refine wp_loop_rounds 3 ?_
  iterate 3 (rw [rounds_succ]; go_wp2)
  go_ret
  exact ⟨rfl, rfl⟩
theorem has_an_c (w : World) : Calls Try.prog 59 #[.string ⟨#[97, 110]⟩, .int .u8 99] w fun e w' => e = .returned (.bool false) ∧ w = w' := by
  go_enter Try.func59, Try.ntmps59
  go_wp2
  refine wp_loop_rounds 3 ?_
  iterate 3 (rw [rounds_succ]; go_wp2)
  go_ret
  exact ⟨rfl, rfl⟩
theorem has_an_n (w : World) : Calls Try.prog 59 #[.string ⟨#[97, 110]⟩, .int .u8 110] w fun e w' => e = .returned (.bool true) ∧ w = w' := by
  go_enter Try.func59, Try.ntmps59
  go_wp2
  refine wp_loop_rounds 2 ?_
  iterate 2 (rw [rounds_succ]; go_wp2)
  go_ret
  exact ⟨rfl, rfl⟩
theorem has_dabc_d (w : World) : Calls Try.prog 59 #[.string ⟨#[100, 97, 98, 99]⟩, .int .u8 100] w fun e w' => e = .returned (.bool true) ∧ w = w' := by
  go_enter Try.func59, Try.ntmps59
  go_wp2
  refine wp_loop_rounds 1 ?_
  iterate 1 (rw [rounds_succ]; go_wp2)
  go_ret
  exact ⟨rfl, rfl⟩
theorem has_dabc_a (w : World) : Calls Try.prog 59 #[.string ⟨#[100, 97, 98, 99]⟩, .int .u8 97] w fun e w' => e = .returned (.bool true) ∧ w = w' := by
  go_enter Try.func59, Try.ntmps59
  go_wp2
  refine wp_loop_rounds 2 ?_
  iterate 2 (rw [rounds_succ]; go_wp2)
  go_ret
  exact ⟨rfl, rfl⟩
theorem has_dabc_b (w : World) : Calls Try.prog 59 #[.string ⟨#[100, 97, 98, 99]⟩, .int .u8 98] w fun e w' => e = .returned (.bool true) ∧ w = w' := by
  go_enter Try.func59, Try.ntmps59
  go_wp2
  refine wp_loop_rounds 3 ?_
  iterate 3 (rw [rounds_succ]; go_wp2)
  go_ret
  exact ⟨rfl, rfl⟩
theorem has_dabc_c (w : World) : Calls Try.prog 59 #[.string ⟨#[100, 97, 98, 99]⟩, .int .u8 99] w fun e w' => e = .returned (.bool true) ∧ w = w' := by
  go_enter Try.func59, Try.ntmps59
  go_wp2
  refine wp_loop_rounds 4 ?_
  iterate 4 (rw [rounds_succ]; go_wp2)
  go_ret
  exact ⟨rfl, rfl⟩
theorem has_dabc_n (w : World) : Calls Try.prog 59 #[.string ⟨#[100, 97, 98, 99]⟩, .int .u8 110] w fun e w' => e = .returned (.bool false) ∧ w = w' := by
  go_enter Try.func59, Try.ntmps59
  go_wp2
  refine wp_loop_rounds 5 ?_
  iterate 5 (rw [rounds_succ]; go_wp2)
  go_ret
  exact ⟨rfl, rfl⟩
theorem has_dn_d (w : World) : Calls Try.prog 59 #[.string ⟨#[100, 110]⟩, .int .u8 100] w fun e w' => e = .returned (.bool true) ∧ w = w' := by
  go_enter Try.func59, Try.ntmps59
  go_wp2
  refine wp_loop_rounds 1 ?_
  iterate 1 (rw [rounds_succ]; go_wp2)
  go_ret
  exact ⟨rfl, rfl⟩
theorem has_dn_a (w : World) : Calls Try.prog 59 #[.string ⟨#[100, 110]⟩, .int .u8 97] w fun e w' => e = .returned (.bool false) ∧ w = w' := by
  go_enter Try.func59, Try.ntmps59
  go_wp2
  refine wp_loop_rounds 3 ?_
  iterate 3 (rw [rounds_succ]; go_wp2)
  go_ret
  exact ⟨rfl, rfl⟩
theorem has_dn_b (w : World) : Calls Try.prog 59 #[.string ⟨#[100, 110]⟩, .int .u8 98] w fun e w' => e = .returned (.bool false) ∧ w = w' := by
  go_enter Try.func59, Try.ntmps59
  go_wp2
  refine wp_loop_rounds 3 ?_
  iterate 3 (rw [rounds_succ]; go_wp2)
  go_ret
  exact ⟨rfl, rfl⟩
theorem has_dn_c (w : World) : Calls Try.prog 59 #[.string ⟨#[100, 110]⟩, .int .u8 99] w fun e w' => e = .returned (.bool false) ∧ w = w' := by
  go_enter Try.func59, Try.ntmps59
  go_wp2
  refine wp_loop_rounds 3 ?_
  iterate 3 (rw [rounds_succ]; go_wp2)
  go_ret
  exact ⟨rfl, rfl⟩
theorem has_dn_n (w : World) : Calls Try.prog 59 #[.string ⟨#[100, 110]⟩, .int .u8 110] w fun e w' => e = .returned (.bool true) ∧ w = w' := by
  go_enter Try.func59, Try.ntmps59
  go_wp2
  refine wp_loop_rounds 2 ?_
  iterate 2 (rw [rounds_succ]; go_wp2)
  go_ret
  exact ⟨rfl, rfl⟩
theorem has_dan_d (w : World) : Calls Try.prog 59 #[.string ⟨#[100, 97, 110]⟩, .int .u8 100] w fun e w' => e = .returned (.bool true) ∧ w = w' := by
  go_enter Try.func59, Try.ntmps59
  go_wp2
  refine wp_loop_rounds 1 ?_
  iterate 1 (rw [rounds_succ]; go_wp2)
  go_ret
  exact ⟨rfl, rfl⟩
theorem has_dan_a (w : World) : Calls Try.prog 59 #[.string ⟨#[100, 97, 110]⟩, .int .u8 97] w fun e w' => e = .returned (.bool true) ∧ w = w' := by
  go_enter Try.func59, Try.ntmps59
  go_wp2
  refine wp_loop_rounds 2 ?_
  iterate 2 (rw [rounds_succ]; go_wp2)
  go_ret
  exact ⟨rfl, rfl⟩
theorem has_dan_b (w : World) : Calls Try.prog 59 #[.string ⟨#[100, 97, 110]⟩, .int .u8 98] w fun e w' => e = .returned (.bool false) ∧ w = w' := by
  go_enter Try.func59, Try.ntmps59
  go_wp2
  refine wp_loop_rounds 4 ?_
  iterate 4 (rw [rounds_succ]; go_wp2)
  go_ret
  exact ⟨rfl, rfl⟩
theorem has_dan_c (w : World) : Calls Try.prog 59 #[.string ⟨#[100, 97, 110]⟩, .int .u8 99] w fun e w' => e = .returned (.bool false) ∧ w = w' := by
  go_enter Try.func59, Try.ntmps59
  go_wp2
  refine wp_loop_rounds 4 ?_
  iterate 4 (rw [rounds_succ]; go_wp2)
  go_ret
  exact ⟨rfl, rfl⟩
theorem has_dan_n (w : World) : Calls Try.prog 59 #[.string ⟨#[100, 97, 110]⟩, .int .u8 110] w fun e w' => e = .returned (.bool true) ∧ w = w' := by
  go_enter Try.func59, Try.ntmps59
  go_wp2
  refine wp_loop_rounds 3 ?_
  iterate 3 (rw [rounds_succ]; go_wp2)
  go_ret
  exact ⟨rfl, rfl⟩
theorem has_dab_d (w : World) : Calls Try.prog 59 #[.string ⟨#[100, 97, 98]⟩, .int .u8 100] w fun e w' => e = .returned (.bool true) ∧ w = w' := by
  go_enter Try.func59, Try.ntmps59
  go_wp2
  refine wp_loop_rounds 1 ?_
  iterate 1 (rw [rounds_succ]; go_wp2)
  go_ret
  exact ⟨rfl, rfl⟩
theorem has_dab_a (w : World) : Calls Try.prog 59 #[.string ⟨#[100, 97, 98]⟩, .int .u8 97] w fun e w' => e = .returned (.bool true) ∧ w = w' := by
  go_enter Try.func59, Try.ntmps59
  go_wp2
  refine wp_loop_rounds 2 ?_
  iterate 2 (rw [rounds_succ]; go_wp2)
  go_ret
  exact ⟨rfl, rfl⟩
theorem has_dab_b (w : World) : Calls Try.prog 59 #[.string ⟨#[100, 97, 98]⟩, .int .u8 98] w fun e w' => e = .returned (.bool true) ∧ w = w' := by
  go_enter Try.func59, Try.ntmps59
  go_wp2
  refine wp_loop_rounds 3 ?_
  iterate 3 (rw [rounds_succ]; go_wp2)
  go_ret
  exact ⟨rfl, rfl⟩
theorem has_dab_c (w : World) : Calls Try.prog 59 #[.string ⟨#[100, 97, 98]⟩, .int .u8 99] w fun e w' => e = .returned (.bool false) ∧ w = w' := by
  go_enter Try.func59, Try.ntmps59
  go_wp2
  refine wp_loop_rounds 4 ?_
  iterate 4 (rw [rounds_succ]; go_wp2)
  go_ret
  exact ⟨rfl, rfl⟩
theorem has_dab_n (w : World) : Calls Try.prog 59 #[.string ⟨#[100, 97, 98]⟩, .int .u8 110] w fun e w' => e = .returned (.bool false) ∧ w = w' := by
  go_enter Try.func59, Try.ntmps59
  go_wp2
  refine wp_loop_rounds 4 ?_
  iterate 4 (rw [rounds_succ]; go_wp2)
  go_ret
  exact ⟨rfl, rfl⟩
def goodS (s : Array UInt8) : Prop := s = #[] ∨ s = #[110] ∨ s = #[100] ∨ s = #[100, 97] ∨ s = #[97, 110] ∨ s = #[100, 97, 98, 99] ∨ s = #[100, 110] ∨ s = #[100, 97, 110] ∨ s = #[100, 97, 98]
theorem hasA_d (s : Array UInt8) (hs : goodS s) (w : World) : Calls Try.prog 59 #[.string ⟨s⟩, .int .u8 100] w fun e w' => e = .returned (.bool (hasB s 100)) ∧ w = w' := by
  rcases hs with rfl | rfl | rfl | rfl | rfl | rfl | rfl | rfl | rfl
  · exact has__d w
  · exact has_n_d w
  · exact has_d_d w
  · exact has_da_d w
  · exact has_an_d w
  · exact has_dabc_d w
  · exact has_dn_d w
  · exact has_dan_d w
  · exact has_dab_d w
theorem hasA_a (s : Array UInt8) (hs : goodS s) (w : World) : Calls Try.prog 59 #[.string ⟨s⟩, .int .u8 97] w fun e w' => e = .returned (.bool (hasB s 97)) ∧ w = w' := by
  rcases hs with rfl | rfl | rfl | rfl | rfl | rfl | rfl | rfl | rfl
  · exact has__a w
  · exact has_n_a w
  · exact has_d_a w
  · exact has_da_a w
  · exact has_an_a w
  · exact has_dabc_a w
  · exact has_dn_a w
  · exact has_dan_a w
  · exact has_dab_a w
theorem hasA_b (s : Array UInt8) (hs : goodS s) (w : World) : Calls Try.prog 59 #[.string ⟨s⟩, .int .u8 98] w fun e w' => e = .returned (.bool (hasB s 98)) ∧ w = w' := by
  rcases hs with rfl | rfl | rfl | rfl | rfl | rfl | rfl | rfl | rfl
  · exact has__b w
  · exact has_n_b w
  · exact has_d_b w
  · exact has_da_b w
  · exact has_an_b w
  · exact has_dabc_b w
  · exact has_dn_b w
  · exact has_dan_b w
  · exact has_dab_b w
theorem hasA_c (s : Array UInt8) (hs : goodS s) (w : World) : Calls Try.prog 59 #[.string ⟨s⟩, .int .u8 99] w fun e w' => e = .returned (.bool (hasB s 99)) ∧ w = w' := by
  rcases hs with rfl | rfl | rfl | rfl | rfl | rfl | rfl | rfl | rfl
  · exact has__c w
  · exact has_n_c w
  · exact has_d_c w
  · exact has_da_c w
  · exact has_an_c w
  · exact has_dabc_c w
  · exact has_dn_c w
  · exact has_dan_c w
  · exact has_dab_c w
theorem hasA_n (s : Array UInt8) (hs : goodS s) (w : World) : Calls Try.prog 59 #[.string ⟨s⟩, .int .u8 110] w fun e w' => e = .returned (.bool (hasB s 110)) ∧ w = w' := by
  rcases hs with rfl | rfl | rfl | rfl | rfl | rfl | rfl | rfl | rfl
  · exact has__n w
  · exact has_n_n w
  · exact has_d_n w
  · exact has_da_n w
  · exact has_an_n w
  · exact has_dabc_n w
  · exact has_dn_n w
  · exact has_dan_n w
  · exact has_dab_n w
theorem retu {a b : Int} (h : a = b) : Ending.returned (.int .u32 a) = .returned (.int .u32 b) := by rw [h]
structure Cd where
  op : Int
  d : Int
  a : Int
  b : Int
  c : Int
  n : Int
  k : Nat
  x : Nat
  deriving DecidableEq
abbrev cdA (x : Cd) : Array Value := #[.int .i64 x.op, .int .i64 x.d, .int .i64 x.a, .int .i64 x.b, .int .i64 x.c, .int .i64 x.n, .int .u32 x.k, .int .u32 x.x]
abbrev cdV (x : Cd) : Value := .agg (cdA x)
/-- The first word of an instruction. -/
def fst (x : Cd) : Int := (x.op + 256 * x.d + 4096 * x.a + 65536 * x.b + 1048576 * x.c + 65536 * x.n) % 4294967296
theorem first_any (x : Cd) (w : World) : Calls Try.prog 60 #[cdV x] w fun e w' => e = .returned (.int .u32 (fst x)) ∧ w.alloc (.cells (cdA x) 57) = w' := by
  obtain ⟨op, d, a, b, c, n, k, y⟩ := x
  go_enter Try.func60, Try.ntmps60
  go_wp2
  go_ret
  exact ⟨retu (by unfold fst; simp only []; omega), rfl⟩
end Go.Proofs.Ytocefkpnlgfebab.Ho
namespace Go.Proofs.Ytocefkpnlgfebab.Ho
open Go.RowKit
set_option maxRecDepth 100000
set_option linter.unusedVariables false
set_option linter.unusedSimpArgs false
/-- Has a format one of these fields? -/
def hb (h m : Int) : Bool := !(bits .and .u16 h m == 0)
theorem hb_iff (h m : Int) : bits .and .u16 h m = 0 ↔ hb h m = false := by unfold hb; simp
structure Fo where
  first : Int
  last : Int
  kind : Int
  has : Int
  most : Int
abbrev foA (f : Fo) : Array Value := #[.int .u8 f.first, .int .u8 f.last, .int .u8 f.kind, .int .u16 f.has, .int .u16 f.most]
/-- An instruction as it lies in words: its block. -/
abbrev fdA (x : Cd) (f : Fo) (n : Int) : Array Value := #[.int .i64 x.op, .int .i64 x.d, .int .i64 x.a, .int .i64 x.b, .int .i64 x.c, .int .i64 x.n, .int .u32 x.k, .int .u32 x.x, .int .u8 f.first, .int .u8 f.last, .int .u8 f.kind, .int .u16 f.has, .int .u16 f.most, .int .i64 n]
theorem wp_gen {P : Program} {c : Code} {Q : Exit → Act → World → Prop} {a : Act} {W : World} (p : World → Prop) (h : p W) (k : ∀ w', p w' → Code.wp P c Q a w') : Code.wp P c Q a W := k W h
/-- read, under way. -/
structure RD (w wx : World) (I R BI BC : Nat) (x : Cd) (f : Fo) (n : Int) (v : Nat) : Prop where
  b : wx.heap[I]? = some (.cells (fdA x f n) 105)
  bi : wx.heap[BI]? = some (.cells #[.pointer (some ⟨I, 0, none⟩)] 167)
  bc : wx.heap[BC]? = some (.cells #[.func (Fn.func 126) #[] #[.pointer (some ⟨R, 0, none⟩)]] 204)
  br : wx.heap[R]? = some (.cells #[.int .u32 v] 22)
  nBI : BI ≠ I
  nBC : BC ≠ I
  nR : R ≠ I
  nRB : R ≠ BI
  nRC : R ≠ BC
  gBI : w.heap.size ≤ BI
  gBC : w.heap.size ≤ BC
  gR : w.heap.size ≤ R
  ch : Chg [I] w wx
theorem RD.fw {w wx : World} {I R BI BC : Nat} {x : Cd} {f : Fo} {n : Int} {v : Nat} (h : RD w wx I R BI BC x f n v) : FW wx BI BC R I v f.has :=
  ⟨h.bi, h.bc, h.br, row_cell h.b 11, row_lt h.b⟩
theorem RD.drw {w wx : World} {I R BI BC : Nat} {x : Cd} {f : Fo} {n : Int} {v : Nat} (h : RD w wx I R BI BC x f n v) : RD w wx.drew I R BI BC x f n v :=
  ⟨h.b, h.bi, h.bc, h.br, h.nBI, h.nBC, h.nR, h.nRB, h.nRC, h.gBI, h.gBC, h.gR, h.ch.drew⟩
theorem RD.put {w wx : World} {I R BI BC : Nat} {x : Cd} {f : Fo} {n : Int} {v : Nat} (h : RD w wx I R BI BC x f n v) (x' : Cd) (o : Nat) (u : Value) (e : (fdA x f n).setIfInBounds o u = fdA x' f n) : RD w (wx.setCell ⟨I, o, none⟩ u) I R BI BC x' f n v :=
  ⟨by rw [blk_set h.b, e], (blk_other h.nBI _).trans h.bi, (blk_other h.nBC _).trans h.bc, (blk_other h.nR _).trans h.br, h.nBI, h.nBC, h.nR, h.nRB, h.nRC, h.gBI, h.gBC, h.gR, h.ch.set (by simp) _ _⟩
theorem RD.rest {w wx w1 : World} {I R BI BC : Nat} {x : Cd} {f : Fo} {n : Int} {v v' : Nat} (h : RD w wx I R BI BC x f n v) (c : Chg [R] wx w1) (b : w1.heap[R]? = some (.cells #[.int .u32 v'] 22)) : RD w w1 I R BI BC x f n v' :=
  ⟨c.keep h.b (by simpa using h.nR.symm), c.keep h.bi (by simpa using h.nRB.symm), c.keep h.bc (by simpa using h.nRC.symm), b, h.nBI, h.nBC, h.nR, h.nRB, h.nRC, h.gBI, h.gBC, h.gR,
   ⟨c.os.trans h.ch.os, c.tape.trans h.ch.tape, c.output.trans h.ch.output, Nat.le_trans h.ch.size c.size, fun k hk hs => (c.block k (Nat.lt_of_lt_of_le hk h.ch.size) (by have := h.gR; simp; omega)).trans (h.ch.block k hk hs)⟩⟩
theorem RD.put8 {w wx : World} {I R BI BC : Nat} {x : Cd} {f : Fo} {n : Int} {v : Nat} (h : RD w wx I R BI BC x f n v) (x' : Cd) : RD w ((((((((wx.setCell ⟨I, 0, none⟩ (.int .i64 x'.op)).setCell ⟨I, 1, none⟩ (.int .i64 x'.d)).setCell ⟨I, 2, none⟩ (.int .i64 x'.a)).setCell ⟨I, 3, none⟩ (.int .i64 x'.b)).setCell ⟨I, 4, none⟩ (.int .i64 x'.c)).setCell ⟨I, 5, none⟩ (.int .i64 x'.n)).setCell ⟨I, 6, none⟩ (.int .u32 x'.k)).setCell ⟨I, 7, none⟩ (.int .u32 x'.x)) I R BI BC x' f n v := ((((((((h.put ⟨x'.op, x.d, x.a, x.b, x.c, x.n, x.k, x.x⟩ 0 _ rfl).put ⟨x'.op, x'.d, x.a, x.b, x.c, x.n, x.k, x.x⟩ 1 _ rfl).put ⟨x'.op, x'.d, x'.a, x.b, x.c, x.n, x.k, x.x⟩ 2 _ rfl).put ⟨x'.op, x'.d, x'.a, x'.b, x.c, x.n, x.k, x.x⟩ 3 _ rfl).put ⟨x'.op, x'.d, x'.a, x'.b, x'.c, x.n, x.k, x.x⟩ 4 _ rfl).put ⟨x'.op, x'.d, x'.a, x'.b, x'.c, x'.n, x.k, x.x⟩ 5 _ rfl).put ⟨x'.op, x'.d, x'.a, x'.b, x'.c, x'.n, x'.k, x.x⟩ 6 _ rfl).put ⟨x'.op, x'.d, x'.a, x'.b, x'.c, x'.n, x'.k, x'.x⟩ 7 _ rfl)
/-- The fields of a word, one behind the other. -/
def rd1 (v : Nat) : Nat := rst true 1 256 v
def rd2 (h : Int) (v : Nat) : Nat := rst (hb h 448) 256 16 (rd1 v)
def rd3 (h : Int) (v : Nat) : Nat := rst (hb h 1) 4096 16 (rd2 h v)
def rd4 (h : Int) (v : Nat) : Nat := rst (hb h 2) 65536 16 (rd3 h v)
def rd5 (h : Int) (v : Nat) : Nat := rst (hb h 4) 1048576 16 (rd4 h v)
def rd6 (h : Int) (v : Nat) : Nat := rst (hb h 8) 65536 65536 (rd5 h v)
def rdX (h : Int) (v : Nat) (k x : Nat) : Cd := ⟨fld true 1 256 v, fld (hb h 448) 256 16 (rd1 v), fld (hb h 1) 4096 16 (rd2 h v), fld (hb h 2) 65536 16 (rd3 h v), fld (hb h 4) 1048576 16 (rd4 h v), fld (hb h 8) 65536 65536 (rd5 h v), k, x⟩
theorem rd1_lt {v : Nat} (hv : v < 4294967296) : rd1 v < 4294967296 := rst_lt _ _ _ _ hv
theorem rd2_lt (h : Int) {v : Nat} (hv : v < 4294967296) : rd2 h v < 4294967296 := rst_lt _ _ _ _ (rd1_lt hv)
theorem rd3_lt (h : Int) {v : Nat} (hv : v < 4294967296) : rd3 h v < 4294967296 := rst_lt _ _ _ _ (rd2_lt h hv)
theorem rd4_lt (h : Int) {v : Nat} (hv : v < 4294967296) : rd4 h v < 4294967296 := rst_lt _ _ _ _ (rd3_lt h hv)
theorem rd5_lt (h : Int) {v : Nat} (hv : v < 4294967296) : rd5 h v < 4294967296 := rst_lt _ _ _ _ (rd4_lt h hv)
/-- Words that lie one behind the other. -/
structure WR (w : World) (b off n : Nat) (ws : Nat → Nat) : Prop where
  cell : ∀ i, i < n → w.cell? ⟨b, off + i, none⟩ = some (.int .u32 (ws i))
  lt : ∀ i, ws i < 4294967296
  lb : b < w.heap.size
theorem rd_start (w : World) (I u0 : Nat) (x0 : Cd) (f : Fo) (nn : Int) (hI : w.heap[I]? = some (.cells (fdA x0 f nn) 105)) :
    RD w (((w.alloc (.cells #[.pointer (some ⟨I, 0, none⟩)] 167)).alloc (.cells #[.int .u32 u0] 22)).alloc (.cells #[.func (Fn.func 126) #[] #[.pointer (some ⟨w.heap.size + 1, 0, none⟩)]] 204)) I (w.heap.size + 1) w.heap.size (w.heap.size + 1 + 1) x0 f nn u0 := by
  have lI := row_lt hI
  have e1 := heap_alloc_last w (.cells #[.pointer (some ⟨I, 0, none⟩)] 167)
  have e2 := heap_alloc_last (w.alloc (.cells #[.pointer (some ⟨I, 0, none⟩)] 167)) (.cells #[.int .u32 u0] 22)
  have e3 := heap_alloc_last ((w.alloc (.cells #[.pointer (some ⟨I, 0, none⟩)] 167)).alloc (.cells #[.int .u32 u0] 22)) (.cells #[.func (Fn.func 126) #[] #[.pointer (some ⟨w.heap.size + 1, 0, none⟩)]] 204)
  simp only [World.size_alloc] at e2 e3
  refine ⟨?_, ?_, e3, ?_, by omega, by omega, by omega, by omega, by omega, by omega, by omega, by omega, (((Chg.refl [I] w).alloc _).alloc _).alloc _⟩
  · rw [Below.heap_alloc _ _ _ (by simp; omega), Below.heap_alloc _ _ _ (by simp; omega), Below.heap_alloc _ _ _ lI]; exact hI
  · rw [Below.heap_alloc _ _ _ (by simp; omega), Below.heap_alloc _ _ _ (by simp)]; exact e1
  · rw [Below.heap_alloc _ _ _ (by simp)]; exact e2
def kOf (n : Nat) (u : Nat) : Nat := if 1 < n then u else 0
def xOf (n : Nat) (u : Nat) : Nat := if 2 < n then u else 0
end Go.Proofs.Ytocefkpnlgfebab.Ho
namespace Go.Proofs.Ytocefkpnlgfebab.Ho
open Go.RowKit
set_option maxRecDepth 100000
set_option linter.unusedVariables false
set_option linter.unusedSimpArgs false
/-- How many words a format has, by its fields. -/
inductive SzOf (h : Int) : Nat → Prop
  | three (a : (bits .and .u16 h 32 == 0) = false) : SzOf h 3
  | two (a : bits .and .u16 h 32 = 0) (b : (bits .and .u16 h 16 == 0) = false) : SzOf h 2
  | one (a : bits .and .u16 h 32 = 0) (b : bits .and .u16 h 16 = 0) : SzOf h 1
theorem size0_any (P n : Nat) (h : Int) (w : World) (hn : SzOf h n) (ch : w.cell? ⟨P, 3, none⟩ = some (.int .u16 h)) (lP : P < w.heap.size) :
    Calls Try.prog 96 #[.pointer (some ⟨P, 0, none⟩)] w fun e w' => e = .returned (.int .i64 n) ∧ w = w' := by
  rcases hn with a | ⟨a, b⟩ | ⟨a, b⟩
  · have a2 : (bits .and .u16 h 32 != 0) = true := by simp [bne, a]
    go_enter Try.func96, Try.ntmps96; go_wp2; go_ret; exact ⟨rfl, rfl⟩
  · have b2 : (bits .and .u16 h 16 != 0) = true := by simp [bne, b]
    go_enter Try.func96, Try.ntmps96; go_wp2; go_ret; exact ⟨rfl, rfl⟩
  · go_enter Try.func96, Try.ntmps96; go_wp2; go_ret; exact ⟨rfl, rfl⟩
theorem size8_any (P n : Nat) (h : Int) (w : World) (hn : SzOf h n) (ch : w.cell? ⟨P, 11, none⟩ = some (.int .u16 h)) (lP : P < w.heap.size) :
    Calls Try.prog 96 #[.pointer (some ⟨P, 8, none⟩)] w fun e w' => e = .returned (.int .i64 n) ∧ w = w' := by
  rcases hn with a | ⟨a, b⟩ | ⟨a, b⟩
  · have a2 : (bits .and .u16 h 32 != 0) = true := by simp [bne, a]
    go_enter Try.func96, Try.ntmps96; go_wp2; go_ret; exact ⟨rfl, rfl⟩
  · have b2 : (bits .and .u16 h 16 != 0) = true := by simp [bne, b]
    go_enter Try.func96, Try.ntmps96; go_wp2; go_ret; exact ⟨rfl, rfl⟩
  · go_enter Try.func96, Try.ntmps96; go_wp2; go_ret; exact ⟨rfl, rfl⟩
def alB (st : Bool) (d nn m : Int) : Bool := decide (nn ≤ m) && (!st || (decide (1 ≤ d) && decide (d ≤ 7)))
set_option maxHeartbeats 1000000 in
theorem al_y_no (I : Nat) (h d nn m : Int) (w : World) (c1 : w.cell? ⟨I, 1, none⟩ = some (.int .i64 d)) (c5 : w.cell? ⟨I, 5, none⟩ = some (.int .i64 nn)) (c11 : w.cell? ⟨I, 11, none⟩ = some (.int .u16 h)) (c12 : w.cell? ⟨I, 12, none⟩ = some (.int .u16 m)) (lI : I < w.heap.size) (m0 : 0 ≤ m) (m1 : m ≤ 65535) (g1 : 1 ≤ d) (g2 : d ≤ 7) (q1 : decide (nn ≤ m) = false) :
    Calls Try.prog 98 #[.pointer (some ⟨I, 8, none⟩), .pointer (some ⟨I, 0, none⟩)] w fun e w' => e = .returned (.bool false) ∧ ∃ n, w' = w.drewN n := by
  go_enter Try.func98, Try.ntmps98
  go_upto_region 2 with fail
  go_quiet (fail)
  go_wp2
  go_ret
  exact ⟨rfl, _, rfl⟩
set_option maxHeartbeats 1000000 in
theorem al_y_free (I : Nat) (h d nn m : Int) (w : World) (c1 : w.cell? ⟨I, 1, none⟩ = some (.int .i64 d)) (c5 : w.cell? ⟨I, 5, none⟩ = some (.int .i64 nn)) (c11 : w.cell? ⟨I, 11, none⟩ = some (.int .u16 h)) (c12 : w.cell? ⟨I, 12, none⟩ = some (.int .u16 m)) (lI : I < w.heap.size) (m0 : 0 ≤ m) (m1 : m ≤ 65535) (g1 : 1 ≤ d) (g2 : d ≤ 7) (q1 : decide (nn ≤ m) = true) (hst : (bits .and .u16 h 256 == 0) = true) :
    Calls Try.prog 98 #[.pointer (some ⟨I, 8, none⟩), .pointer (some ⟨I, 0, none⟩)] w fun e w' => e = .returned (.bool true) ∧ ∃ n, w' = w.drewN n := by
  go_enter Try.func98, Try.ntmps98
  go_upto_region 2 with fail
  go_quiet (fail)
  go_wp2
  go_ret
  exact ⟨rfl, _, rfl⟩
set_option maxHeartbeats 1000000 in
theorem al_y_st (I : Nat) (h d nn m : Int) (w : World) (c1 : w.cell? ⟨I, 1, none⟩ = some (.int .i64 d)) (c5 : w.cell? ⟨I, 5, none⟩ = some (.int .i64 nn)) (c11 : w.cell? ⟨I, 11, none⟩ = some (.int .u16 h)) (c12 : w.cell? ⟨I, 12, none⟩ = some (.int .u16 m)) (lI : I < w.heap.size) (m0 : 0 ≤ m) (m1 : m ≤ 65535) (g1 : 1 ≤ d) (g2 : d ≤ 7) (q1 : decide (nn ≤ m) = true) (hst : (bits .and .u16 h 256 == 0) = false) :
    Calls Try.prog 98 #[.pointer (some ⟨I, 8, none⟩), .pointer (some ⟨I, 0, none⟩)] w fun e w' => e = .returned (.bool true) ∧ ∃ n, w' = w.drewN n := by
  go_enter Try.func98, Try.ntmps98
  go_upto_region 2 with fail
  go_quiet (fail)
  go_wp2
  go_ret
  exact ⟨rfl, _, rfl⟩
set_option maxHeartbeats 1000000 in
theorem al_lo_no (I : Nat) (h d nn m : Int) (w : World) (c1 : w.cell? ⟨I, 1, none⟩ = some (.int .i64 d)) (c5 : w.cell? ⟨I, 5, none⟩ = some (.int .i64 nn)) (c11 : w.cell? ⟨I, 11, none⟩ = some (.int .u16 h)) (c12 : w.cell? ⟨I, 12, none⟩ = some (.int .u16 m)) (lI : I < w.heap.size) (m0 : 0 ≤ m) (m1 : m ≤ 65535) (g1 : ¬ 1 ≤ d) (q1 : decide (nn ≤ m) = false) :
    Calls Try.prog 98 #[.pointer (some ⟨I, 8, none⟩), .pointer (some ⟨I, 0, none⟩)] w fun e w' => e = .returned (.bool false) ∧ ∃ n, w' = w.drewN n := by
  go_enter Try.func98, Try.ntmps98
  go_upto_region 2 with fail
  go_quiet (fail)
  go_wp2
  go_ret
  exact ⟨rfl, _, rfl⟩
set_option maxHeartbeats 1000000 in
theorem al_lo_free (I : Nat) (h d nn m : Int) (w : World) (c1 : w.cell? ⟨I, 1, none⟩ = some (.int .i64 d)) (c5 : w.cell? ⟨I, 5, none⟩ = some (.int .i64 nn)) (c11 : w.cell? ⟨I, 11, none⟩ = some (.int .u16 h)) (c12 : w.cell? ⟨I, 12, none⟩ = some (.int .u16 m)) (lI : I < w.heap.size) (m0 : 0 ≤ m) (m1 : m ≤ 65535) (g1 : ¬ 1 ≤ d) (q1 : decide (nn ≤ m) = true) (hst : (bits .and .u16 h 256 == 0) = true) :
    Calls Try.prog 98 #[.pointer (some ⟨I, 8, none⟩), .pointer (some ⟨I, 0, none⟩)] w fun e w' => e = .returned (.bool true) ∧ ∃ n, w' = w.drewN n := by
  go_enter Try.func98, Try.ntmps98
  go_upto_region 2 with fail
  go_quiet (fail)
  go_wp2
  go_ret
  exact ⟨rfl, _, rfl⟩
set_option maxHeartbeats 1000000 in
theorem al_lo_st (I : Nat) (h d nn m : Int) (w : World) (c1 : w.cell? ⟨I, 1, none⟩ = some (.int .i64 d)) (c5 : w.cell? ⟨I, 5, none⟩ = some (.int .i64 nn)) (c11 : w.cell? ⟨I, 11, none⟩ = some (.int .u16 h)) (c12 : w.cell? ⟨I, 12, none⟩ = some (.int .u16 m)) (lI : I < w.heap.size) (m0 : 0 ≤ m) (m1 : m ≤ 65535) (g1 : ¬ 1 ≤ d) (q1 : decide (nn ≤ m) = true) (hst : (bits .and .u16 h 256 == 0) = false) :
    Calls Try.prog 98 #[.pointer (some ⟨I, 8, none⟩), .pointer (some ⟨I, 0, none⟩)] w fun e w' => e = .returned (.bool false) ∧ ∃ n, w' = w.drewN n := by
  go_enter Try.func98, Try.ntmps98
  go_upto_region 2 with fail
  go_quiet (fail)
  go_wp2
  go_ret
  exact ⟨rfl, _, rfl⟩
set_option maxHeartbeats 1000000 in
theorem al_hi_no (I : Nat) (h d nn m : Int) (w : World) (c1 : w.cell? ⟨I, 1, none⟩ = some (.int .i64 d)) (c5 : w.cell? ⟨I, 5, none⟩ = some (.int .i64 nn)) (c11 : w.cell? ⟨I, 11, none⟩ = some (.int .u16 h)) (c12 : w.cell? ⟨I, 12, none⟩ = some (.int .u16 m)) (lI : I < w.heap.size) (m0 : 0 ≤ m) (m1 : m ≤ 65535) (g1 : 1 ≤ d) (g2 : ¬ d ≤ 7) (q1 : decide (nn ≤ m) = false) :
    Calls Try.prog 98 #[.pointer (some ⟨I, 8, none⟩), .pointer (some ⟨I, 0, none⟩)] w fun e w' => e = .returned (.bool false) ∧ ∃ n, w' = w.drewN n := by
  go_enter Try.func98, Try.ntmps98
  go_upto_region 2 with fail
  go_quiet (fail)
  go_wp2
  go_ret
  exact ⟨rfl, _, rfl⟩
set_option maxHeartbeats 1000000 in
theorem al_hi_free (I : Nat) (h d nn m : Int) (w : World) (c1 : w.cell? ⟨I, 1, none⟩ = some (.int .i64 d)) (c5 : w.cell? ⟨I, 5, none⟩ = some (.int .i64 nn)) (c11 : w.cell? ⟨I, 11, none⟩ = some (.int .u16 h)) (c12 : w.cell? ⟨I, 12, none⟩ = some (.int .u16 m)) (lI : I < w.heap.size) (m0 : 0 ≤ m) (m1 : m ≤ 65535) (g1 : 1 ≤ d) (g2 : ¬ d ≤ 7) (q1 : decide (nn ≤ m) = true) (hst : (bits .and .u16 h 256 == 0) = true) :
    Calls Try.prog 98 #[.pointer (some ⟨I, 8, none⟩), .pointer (some ⟨I, 0, none⟩)] w fun e w' => e = .returned (.bool true) ∧ ∃ n, w' = w.drewN n := by
  go_enter Try.func98, Try.ntmps98
  go_upto_region 2 with fail
  go_quiet (fail)
  go_wp2
  go_ret
  exact ⟨rfl, _, rfl⟩
set_option maxHeartbeats 1000000 in
theorem al_hi_st (I : Nat) (h d nn m : Int) (w : World) (c1 : w.cell? ⟨I, 1, none⟩ = some (.int .i64 d)) (c5 : w.cell? ⟨I, 5, none⟩ = some (.int .i64 nn)) (c11 : w.cell? ⟨I, 11, none⟩ = some (.int .u16 h)) (c12 : w.cell? ⟨I, 12, none⟩ = some (.int .u16 m)) (lI : I < w.heap.size) (m0 : 0 ≤ m) (m1 : m ≤ 65535) (g1 : 1 ≤ d) (g2 : ¬ d ≤ 7) (q1 : decide (nn ≤ m) = true) (hst : (bits .and .u16 h 256 == 0) = false) :
    Calls Try.prog 98 #[.pointer (some ⟨I, 8, none⟩), .pointer (some ⟨I, 0, none⟩)] w fun e w' => e = .returned (.bool false) ∧ ∃ n, w' = w.drewN n := by
  go_enter Try.func98, Try.ntmps98
  go_upto_region 2 with fail
  go_quiet (fail)
  go_wp2
  go_ret
  exact ⟨rfl, _, rfl⟩
theorem allows_any (I : Nat) (h d nn m : Int) (st : Bool) (w : World) (hs : bits .and .u16 h 256 = 0 ↔ st = false) (c1 : w.cell? ⟨I, 1, none⟩ = some (.int .i64 d)) (c5 : w.cell? ⟨I, 5, none⟩ = some (.int .i64 nn)) (c11 : w.cell? ⟨I, 11, none⟩ = some (.int .u16 h)) (c12 : w.cell? ⟨I, 12, none⟩ = some (.int .u16 m)) (lI : I < w.heap.size) (m0 : 0 ≤ m) (m1 : m ≤ 65535) :
    Calls Try.prog 98 #[.pointer (some ⟨I, 8, none⟩), .pointer (some ⟨I, 0, none⟩)] w fun e w' => e = .returned (.bool (alB st d nn m)) ∧ ∃ n, w' = w.drewN n := by
  have hst : (bits .and .u16 h 256 == 0) = !st := by
    cases st with
    | false => rw [hs.2 rfl]; rfl
    | true =>
      cases hh : (bits .and .u16 h 256 == 0) with
      | false => rfl
      | true => exact absurd (hs.1 (by simpa using hh)) (by simp)
  by_cases g3 : nn ≤ m
  · have q1 : decide (nn ≤ m) = true := decide_eq_true g3
    cases st
    · rw [show alB false d nn m = true from by simp [alB, g3]]
      by_cases g1 : 1 ≤ d
      · by_cases g2 : d ≤ 7
        · exact al_y_free I h d nn m w c1 c5 c11 c12 lI m0 m1 g1 g2 q1 hst
        · exact al_hi_free I h d nn m w c1 c5 c11 c12 lI m0 m1 g1 g2 q1 hst
      · exact al_lo_free I h d nn m w c1 c5 c11 c12 lI m0 m1 g1 q1 hst
    · by_cases g1 : 1 ≤ d
      · by_cases g2 : d ≤ 7
        · rw [show alB true d nn m = true from by simp [alB, g1, g2, g3]]
          exact al_y_st I h d nn m w c1 c5 c11 c12 lI m0 m1 g1 g2 q1 hst
        · rw [show alB true d nn m = false from by simp [alB, g2]]
          exact al_hi_st I h d nn m w c1 c5 c11 c12 lI m0 m1 g1 g2 q1 hst
      · rw [show alB true d nn m = false from by simp [alB, g1]]
        exact al_lo_st I h d nn m w c1 c5 c11 c12 lI m0 m1 g1 q1 hst
  · have q1 : decide (nn ≤ m) = false := decide_eq_false g3
    rw [show alB st d nn m = false from by simp [alB, g3]]
    by_cases g1 : 1 ≤ d
    · by_cases g2 : d ≤ 7
      · exact al_y_no I h d nn m w c1 c5 c11 c12 lI m0 m1 g1 g2 q1
      · exact al_hi_no I h d nn m w c1 c5 c11 c12 lI m0 m1 g1 g2 q1
    · exact al_lo_no I h d nn m w c1 c5 c11 c12 lI m0 m1 g1 q1
end Go.Proofs.Ytocefkpnlgfebab.Ho
namespace Go.Proofs.Ytocefkpnlgfebab.Ho
open Go.RowKit
set_option maxRecDepth 100000
set_option linter.unusedVariables false
set_option linter.unusedSimpArgs false
def szN (h : Int) : Nat := if hb h 32 then 3 else if hb h 16 then 2 else 1
theorem szOf (h : Int) : SzOf h (szN h) := by
  unfold szN
  by_cases a : hb h 32 = true
  · rw [if_pos a]; exact .three (by simpa [hb] using a)
  · rw [if_neg a]
    have a' := (hb_iff h 32).2 (by simpa using a)
    by_cases c : hb h 16 = true
    · rw [if_pos c]; exact .two a' (by simpa [hb] using c)
    · rw [if_neg c]; exact .one a' ((hb_iff h 16).2 (by simpa using c))
def foOf (k : Nat) : Fo := ⟨tg k 0, tg k 1, tg k 2, tg k 3, tg k 4⟩
theorem foOf_most (k : Nat) (h : k < 23) : 0 ≤ (foOf k).most ∧ (foOf k).most ≤ 65535 := by
  rcases (by omega : k = 0 ∨ k = 1 ∨ k = 2 ∨ k = 3 ∨ k = 4 ∨ k = 5 ∨ k = 6 ∨ k = 7 ∨ k = 8 ∨ k = 9 ∨ k = 10 ∨ k = 11 ∨ k = 12 ∨ k = 13 ∨ k = 14 ∨ k = 15 ∨ k = 16 ∨ k = 17 ∨ k = 18 ∨ k = 19 ∨ k = 20 ∨ k = 21 ∨ k = 22) with rfl | rfl | rfl | rfl | rfl | rfl | rfl | rfl | rfl | rfl | rfl | rfl | rfl | rfl | rfl | rfl | rfl | rfl | rfl | rfl | rfl | rfl | rfl <;> decide
theorem hit_lt {op : Int} {k : Nat} (h : hit op = some k) : k < 23 := by
  unfold hit at h
  have := List.mem_of_find?_eq_some h
  simpa using this
theorem dec_arg (P : Value) (a : Option Addr) (len cap : Nat) (at' : Int) (w : World) (hl : len ≤ 9223372036854775807) (h : at' < 0 ∨ (len : Int) < at') :
    Calls Try.prog 57 #[P, .slice a len cap, .int .i64 at'] w fun e w' => e = .returned (.int .i64 4) ∧ w = w' := by
  rcases h with h | h
  · go_enter Try.func57, Try.ntmps57; go_wp2; go_ret; exact ⟨rfl, rfl⟩
  · by_cases h0 : at' < 0
    · go_enter Try.func57, Try.ntmps57; go_wp2; go_ret; exact ⟨rfl, rfl⟩
    · go_enter Try.func57, Try.ntmps57; go_wp2; go_ret; exact ⟨rfl, rfl⟩
theorem dec_end (P : Value) (a : Option Addr) (len cap : Nat) (w : World) (hl : len ≤ 9223372036854775807) :
    Calls Try.prog 57 #[P, .slice a len cap, .int .i64 len] w fun e w' => e = .returned (.int .i64 1) ∧ w = w' := by
  have q1 : decide ((len : Int) < 0) = false := decide_eq_false (by omega)
  have q2 : decide ((len : Int) < len) = false := decide_eq_false (by omega)
  go_enter Try.func57, Try.ntmps57; go_wp2; go_ret; exact ⟨rfl, rfl⟩
theorem first_below {w w1 : World} (h : Below w.drew.heap.size w.drew w1) : Below w.heap.size w w1 := ((Below.refl w.heap.size w).drew).trans h
/-- decode has found its format. -/
structure DE (w wx : World) (I BF : Nat) (A : Array Value) (f : Fo) : Prop where
  b : wx.heap[I]? = some (.cells A 105)
  bf : wx.heap[BF]? = some (.cells (foA f) 103)
  ne : BF ≠ I
  ge : w.heap.size ≤ BF
  ch : Chg [I] w wx
theorem de_pre {w w1 : World} {I : Nat} {A : Array Value} (f : Fo) (hI : w.heap[I]? = some (.cells A 105)) (hb : Below (w.alloc (.cells #[.int .u8 0, .int .u8 0, .int .u8 0, .int .u16 0, .int .u16 0] 103)).heap.size (w.alloc (.cells #[.int .u8 0, .int .u8 0, .int .u8 0, .int .u16 0, .int .u16 0] 103)) w1) :
    DE w (((((w1.setCell ⟨w.heap.size, 0, none⟩ (.int .u8 f.first)).setCell ⟨w.heap.size, 1, none⟩ (.int .u8 f.last)).setCell ⟨w.heap.size, 2, none⟩ (.int .u8 f.kind)).setCell ⟨w.heap.size, 3, none⟩ (.int .u16 f.has)).setCell ⟨w.heap.size, 4, none⟩ (.int .u16 f.most)) I w.heap.size A f := by
  have lI := row_lt hI
  have hs : (w.alloc (.cells #[.int .u8 0, .int .u8 0, .int .u8 0, .int .u16 0, .int .u16 0] 103)).heap.size = w.heap.size + 1 := by simp
  have hn : ∀ o v (W : World), (W.setCell ⟨w.heap.size, o, none⟩ v).heap[I]? = W.heap[I]? := fun o v W => blk_other (by omega) v
  have b1 : w1.heap[w.heap.size]? = some (.cells #[.int .u8 0, .int .u8 0, .int .u8 0, .int .u16 0, .int .u16 0] 103) := (hb.block _ (by omega)).trans (heap_alloc_last w _)
  refine ⟨?_, ?_, by omega, Nat.le_refl _, ?_⟩
  · rw [hn, hn, hn, hn, hn, hb.block _ (by omega), Below.heap_alloc _ _ _ lI]; exact hI
  · exact blk_set (blk_set (blk_set (blk_set (blk_set b1 _) _) _) _) _
  · refine Chg.of_below _ ?_
    have h0 : Below w.heap.size w w1 := ((Below.refl w.heap.size w).alloc (Nat.le_refl _) _).trans (hb.mono (by omega))
    exact ((((h0.setCell (Nat.le_refl _) _).setCell (Nat.le_refl _) _).setCell (Nat.le_refl _) _).setCell (Nat.le_refl _) _).setCell (Nat.le_refl _) _
theorem de_post {w w1 : World} {I : Nat} {A : Array Value} (f : Fo) (hI : w.heap[I]? = some (.cells A 105)) (hb : Below w.heap.size w w1) : DE w (w1.alloc (.cells (foA f) 103)) I w1.heap.size A f := by
  have lI := row_lt hI
  have hs := hb.size
  refine ⟨?_, heap_alloc_last w1 _, by omega, hs, ((Chg.of_below _ hb).alloc _)⟩
  rw [Below.heap_alloc _ _ _ (by omega), hb.block _ lI]; exact hI
def dcE (f : Fo) (v : Nat) (x : Cd) : Int := if rd6 f.has v = 0 ∧ alB (hb f.has 256) x.d x.n f.most = true then 0 else 3
structure D2 (w wx : World) (I : Nat) (x : Cd) (f : Fo) (n : Int) : Prop where
  b : wx.heap[I]? = some (.cells (fdA x f n) 105)
  ch : Chg [I] w wx
theorem D2.drw {w wx : World} {I : Nat} {x : Cd} {f : Fo} {n : Int} (h : D2 w wx I x f n) : D2 w wx.drew I x f n := ⟨h.b, h.ch.drew⟩
theorem D2.drwN {w wx : World} {I : Nat} {x : Cd} {f : Fo} {n : Int} (h : D2 w wx I x f n) (m : Nat) : D2 w (wx.drewN m) I x f n := ⟨h.b, h.ch.trans ⟨rfl, rfl, rfl, Nat.le_refl _, fun _ _ _ => rfl⟩⟩
theorem D2.form {w wx : World} {I BF : Nat} {x : Cd} {f0 f : Fo} {n : Int} (h : DE w wx I BF (fdA x f0 n) f) :
    D2 w (((((wx.setCell ⟨I, 8, none⟩ (.int .u8 f.first)).setCell ⟨I, 9, none⟩ (.int .u8 f.last)).setCell ⟨I, 10, none⟩ (.int .u8 f.kind)).setCell ⟨I, 11, none⟩ (.int .u16 f.has)).setCell ⟨I, 12, none⟩ (.int .u16 f.most)) I x f n :=
  ⟨blk_set (blk_set (blk_set (blk_set (blk_set h.b _) _) _) _) _, ((((h.ch.set (by simp) _ _).set (by simp) _ _).set (by simp) _ _).set (by simp) _ _).set (by simp) _ _⟩
theorem D2.words {w wx : World} {I : Nat} {x : Cd} {f : Fo} {n : Int} (h : D2 w wx I x f n) (m : Int) : D2 w (wx.setCell ⟨I, 13, none⟩ (.int .i64 m)) I x f m :=
  ⟨blk_set h.b _, h.ch.set (by simp) _ _⟩
theorem D2.wr {w wx : World} {I : Nat} {x : Cd} {f : Fo} {n : Int} (h : D2 w wx I x f n) {b off len : Nat} {ws : Nat → Nat} (hr : WR w b off len ws) (hb : b ≠ I) (a m : Nat) (ha : a + m ≤ len) : WR wx b (off + a) m (fun i => ws (a + i)) :=
  ⟨fun i hi => by
    have := hr.cell (a + i) (by omega)
    rw [← Nat.add_assoc] at this
    exact (World.cell?_of_block (w := w) (h.ch.block b hr.lb (by simpa using hb))).trans this, fun i => hr.lt _, Nat.lt_of_lt_of_le hr.lb h.ch.size⟩
theorem DE.drw {w wx : World} {I BF : Nat} {A : Array Value} {f : Fo} (h : DE w wx I BF A f) : DE w wx.drew I BF A f := ⟨h.b, h.bf, h.ne, h.ge, h.ch.drew⟩
end Go.Proofs.Ytocefkpnlgfebab.Ho
