import Derived.Test.YtkgbjpdoigdjnaaC1
set_option linter.unusedVariables false
set_option linter.unusedSimpArgs false
set_option maxHeartbeats 1000000
namespace Go.Proofs.Ytkgbjpdoigdjnaa
open Go.RowKit
set_option maxRecDepth 100000
structure RU where
 lo : Int
 hi : Int
 takes : Int
 has : Int
 gives : Bool
 leaves : Bool
 ends : Bool
abbrev ruA (r : RU) : Array Value := #[.int .u8 r.lo, .int .u8 r.hi, .int .u8 r.takes, .int .u8 r.has, .bool r.gives, .bool r.leaves, .bool r.ends]
abbrev ruV (r : RU) : Value := .agg (ruA r)
def ruT (k : Nat) : RU :=
 match k with
 | 1 => ⟨0, 0, 0, 1, true, false, false⟩
 | 2 => ⟨0, 11, 0, 0, true, false, false⟩
 | 3 => ⟨0, 11, 1, 0, false, false, false⟩
 | 4 => ⟨0, 15, 2, 0, true, false, false⟩
 | 5 => ⟨0, 6, 1, 0, true, false, false⟩
 | 6 => ⟨0, 0, 3, 0, true, false, false⟩
 | 7 => ⟨0, 12, 3, 0, true, false, false⟩
 | 8 => ⟨0, 15, 1, 0, true, false, false⟩
 | 9 => ⟨0, 4, 1, 3, true, true, false⟩
 | 10 => ⟨0, 2, 2, 3, false, true, false⟩
 | 11 => ⟨0, 0, 0, 3, false, true, false⟩
 | 12 => ⟨0, 0, 1, 3, false, true, false⟩
 | 13 => ⟨1, 7, 1, 3, false, true, false⟩
 | 14 => ⟨1, 7, 0, 7, false, true, true⟩
 | 15 => ⟨0, 0, 0, 3, false, true, true⟩
 | 16 => ⟨0, 0, 1, 2, false, true, true⟩
 | 17 => ⟨0, 0, 0, 0, true, false, false⟩
 | _ => ⟨0, 0, 0, 0, false, false, false⟩
def ru (kind : Int) : RU := ruT kind.toNat
theorem ru_no (kind : Int) (h : ¬ (1 ≤ kind ∧ kind ≤ 17)) : ru kind = ⟨0, 0, 0, 0, false, false, false⟩ := by
 unfold ru ruT
 split <;> first | rfl | (exfalso; omega)
theorem ru_rr (k : Int) : (ru k).lo = (rr k).lo ∧ (ru k).hi = (rr k).hi ∧ (ru k).gives = (rr k).gives ∧ (ru k).ends = (rr k).ends := by
 by_cases h : 1 ≤ k ∧ k ≤ 17
 ·obtain ⟨n, rfl⟩ : ∃ n : Nat, k = n := ⟨k.toNat, by omega⟩
  have h1 : 1 ≤ n := by omega
  have h2 : n ≤ 17 := by omega
  show (ruT n).lo = (rrT n).lo ∧ (ruT n).hi = (rrT n).hi ∧ (ruT n).gives = (rrT n).gives ∧ (ruT n).ends = (rrT n).ends
  match n, h1, h2 with
  | 1, _, _ | 2, _, _ | 3, _, _ | 4, _, _ | 5, _, _ | 6, _, _ | 7, _, _ | 8, _, _ | 9, _, _ | 10, _, _ | 11, _, _ | 12, _, _ | 13, _, _ | 14, _, _ | 15, _, _ | 16, _, _ | 17, _, _ => exact ⟨rfl, rfl, rfl, rfl⟩
  | n + 18, _, h => exact absurd h (by omega)
 ·rw [ru_no k h, rr_no k h]; exact ⟨rfl, rfl, rfl, rfl⟩
structure RuOk (r : RU) (x : FL) : Prop where
 a : decide (1 ≤ r.takes) = x.ha
 b : decide (2 ≤ r.takes) = x.hb
 c : decide (3 ≤ r.takes) = x.hc
 k : (bits .and .u8 r.has 1 != 0) = x.hk
 n : (bits .and .u8 r.has 2 != 0) = x.hn
 g : (bits .and .u8 r.has 4 != 0) = x.hg
 t0 : 0 ≤ r.takes
 t3 : r.takes ≤ 3
theorem ru_ok (k : Nat) (h1 : 1 ≤ k) (h2 : k ≤ 17) : RuOk (ruT k) (flT k) := by
 match k, h1, h2 with
 | 1, _, _ | 2, _, _ | 3, _, _ | 4, _, _ | 5, _, _ | 6, _, _ | 7, _, _ | 8, _, _ | 9, _, _ | 10, _, _ | 11, _, _ | 12, _, _ | 13, _, _ | 14, _, _ | 15, _, _ | 16, _, _ | 17, _, _ => exact ⟨by decide, by decide, by decide, by decide, by decide, by decide, by decide, by decide⟩
 | n + 18, _, h => exact absurd h (by omega)
theorem isKind_any (n : Int) (w : World) : Calls Try.prog 139 #[.int .i64 n] w fun e w' => e = .returned (.bool (isK n)) ∧ w = w' := by
 by_cases h0 : 1 ≤ n
 ·have d0 : decide (1 ≤ n) = true := decide_eq_true h0
  by_cases h1 : n ≤ 17
  ·have d1 : decide (n ≤ 17) = true := decide_eq_true h1
   rw [show isK n = true by simp [isK, h0, h1]]
   go_enter Try.func139, Try.ntmps139; go_wp2; go_ret; exact ⟨rfl, rfl⟩
  ·have d1 : decide (n ≤ 17) = false := decide_eq_false h1
   rw [show isK n = false by simp [isK, h1]]
   go_enter Try.func139, Try.ntmps139; go_wp2; go_ret; exact ⟨rfl, rfl⟩
 ·have d0 : decide (1 ≤ n) = false := decide_eq_false h0
  rw [show isK n = false by simp [isK, h0]]
  go_enter Try.func139, Try.ntmps139; go_wp2; go_ret; exact ⟨rfl, rfl⟩
def ruL : List Value := [.int .u8 0, .int .u8 0, .int .u8 0, .int .u8 0, .bool false, .bool false, .bool false, .int .u8 0, .int .u8 0, .int .u8 0, .int .u8 1, .bool true, .bool false, .bool false, .int .u8 0, .int .u8 11, .int .u8 0, .int .u8 0, .bool true, .bool false, .bool false, .int .u8 0, .int .u8 11, .int .u8 1, .int .u8 0, .bool false, .bool false, .bool false, .int .u8 0, .int .u8 15, .int .u8 2, .int .u8 0, .bool true, .bool false, .bool false, .int .u8 0, .int .u8 6, .int .u8 1, .int .u8 0, .bool true, .bool false, .bool false, .int .u8 0, .int .u8 0, .int .u8 3, .int .u8 0, .bool true, .bool false, .bool false, .int .u8 0, .int .u8 12, .int .u8 3, .int .u8 0, .bool true, .bool false, .bool false, .int .u8 0, .int .u8 15, .int .u8 1, .int .u8 0, .bool true, .bool false, .bool false, .int .u8 0, .int .u8 4, .int .u8 1, .int .u8 3, .bool true, .bool true, .bool false, .int .u8 0, .int .u8 2, .int .u8 2, .int .u8 3, .bool false, .bool true, .bool false, .int .u8 0, .int .u8 0, .int .u8 0, .int .u8 3, .bool false, .bool true, .bool false, .int .u8 0, .int .u8 0, .int .u8 1, .int .u8 3, .bool false, .bool true, .bool false, .int .u8 1, .int .u8 7, .int .u8 1, .int .u8 3, .bool false, .bool true, .bool false, .int .u8 1, .int .u8 7, .int .u8 0, .int .u8 7, .bool false, .bool true, .bool true, .int .u8 0, .int .u8 0, .int .u8 0, .int .u8 3, .bool false, .bool true, .bool true, .int .u8 0, .int .u8 0, .int .u8 1, .int .u8 2, .bool false, .bool true, .bool true, .int .u8 0, .int .u8 0, .int .u8 0, .int .u8 0, .bool true, .bool false, .bool false]
def ruC : Array Value := ruL.toArray
def ruZ : Array Value := #[.int .u8 0, .int .u8 0, .int .u8 0, .int .u8 0, .bool false, .bool false, .bool false, .int .u8 0, .int .u8 0, .int .u8 0, .int .u8 0, .bool false, .bool false, .bool false, .int .u8 0, .int .u8 0, .int .u8 0, .int .u8 0, .bool false, .bool false, .bool false, .int .u8 0, .int .u8 0, .int .u8 0, .int .u8 0, .bool false, .bool false, .bool false, .int .u8 0, .int .u8 0, .int .u8 0, .int .u8 0, .bool false, .bool false, .bool false, .int .u8 0, .int .u8 0, .int .u8 0, .int .u8 0, .bool false, .bool false, .bool false, .int .u8 0, .int .u8 0, .int .u8 0, .int .u8 0, .bool false, .bool false, .bool false, .int .u8 0, .int .u8 0, .int .u8 0, .int .u8 0, .bool false, .bool false, .bool false, .int .u8 0, .int .u8 0, .int .u8 0, .int .u8 0, .bool false, .bool false, .bool false, .int .u8 0, .int .u8 0, .int .u8 0, .int .u8 0, .bool false, .bool false, .bool false, .int .u8 0, .int .u8 0, .int .u8 0, .int .u8 0, .bool false, .bool false, .bool false, .int .u8 0, .int .u8 0, .int .u8 0, .int .u8 0, .bool false, .bool false, .bool false, .int .u8 0, .int .u8 0, .int .u8 0, .int .u8 0, .bool false, .bool false, .bool false, .int .u8 0, .int .u8 0, .int .u8 0, .int .u8 0, .bool false, .bool false, .bool false, .int .u8 0, .int .u8 0, .int .u8 0, .int .u8 0, .bool false, .bool false, .bool false, .int .u8 0, .int .u8 0, .int .u8 0, .int .u8 0, .bool false, .bool false, .bool false, .int .u8 0, .int .u8 0, .int .u8 0, .int .u8 0, .bool false, .bool false, .bool false, .int .u8 0, .int .u8 0, .int .u8 0, .int .u8 0, .bool false, .bool false, .bool false]
theorem ru_info : (Try.prog.info? 204).map (fun i => (i.zero, i.size)) = some (some (.agg ruZ), 126) := by kernel_rfl
theorem ru_at (k : Nat) (h1 : 1 ≤ k) (h2 : k ≤ 17) : ruC[k * 7]? = some (.int .u8 (ruT k).lo) ∧ ruC[k * 7 + 1]? = some (.int .u8 (ruT k).hi) ∧ ruC[k * 7 + 2]? = some (.int .u8 (ruT k).takes) ∧ ruC[k * 7 + 3]? = some (.int .u8 (ruT k).has) ∧ ruC[k * 7 + 4]? = some (.bool (ruT k).gives) ∧ ruC[k * 7 + 5]? = some (.bool (ruT k).leaves) ∧ ruC[k * 7 + 6]? = some (.bool (ruT k).ends) := by
 match k, h1, h2 with
 | 1, _, _ => exact ⟨by kernel_rfl, by kernel_rfl, by kernel_rfl, by kernel_rfl, by kernel_rfl, by kernel_rfl, by kernel_rfl⟩
 | 2, _, _ => exact ⟨by kernel_rfl, by kernel_rfl, by kernel_rfl, by kernel_rfl, by kernel_rfl, by kernel_rfl, by kernel_rfl⟩
 | 3, _, _ => exact ⟨by kernel_rfl, by kernel_rfl, by kernel_rfl, by kernel_rfl, by kernel_rfl, by kernel_rfl, by kernel_rfl⟩
 | 4, _, _ => exact ⟨by kernel_rfl, by kernel_rfl, by kernel_rfl, by kernel_rfl, by kernel_rfl, by kernel_rfl, by kernel_rfl⟩
 | 5, _, _ => exact ⟨by kernel_rfl, by kernel_rfl, by kernel_rfl, by kernel_rfl, by kernel_rfl, by kernel_rfl, by kernel_rfl⟩
 | 6, _, _ => exact ⟨by kernel_rfl, by kernel_rfl, by kernel_rfl, by kernel_rfl, by kernel_rfl, by kernel_rfl, by kernel_rfl⟩
 | 7, _, _ => exact ⟨by kernel_rfl, by kernel_rfl, by kernel_rfl, by kernel_rfl, by kernel_rfl, by kernel_rfl, by kernel_rfl⟩
 | 8, _, _ => exact ⟨by kernel_rfl, by kernel_rfl, by kernel_rfl, by kernel_rfl, by kernel_rfl, by kernel_rfl, by kernel_rfl⟩
 | 9, _, _ => exact ⟨by kernel_rfl, by kernel_rfl, by kernel_rfl, by kernel_rfl, by kernel_rfl, by kernel_rfl, by kernel_rfl⟩
 | 10, _, _ => exact ⟨by kernel_rfl, by kernel_rfl, by kernel_rfl, by kernel_rfl, by kernel_rfl, by kernel_rfl, by kernel_rfl⟩
 | 11, _, _ => exact ⟨by kernel_rfl, by kernel_rfl, by kernel_rfl, by kernel_rfl, by kernel_rfl, by kernel_rfl, by kernel_rfl⟩
 | 12, _, _ => exact ⟨by kernel_rfl, by kernel_rfl, by kernel_rfl, by kernel_rfl, by kernel_rfl, by kernel_rfl, by kernel_rfl⟩
 | 13, _, _ => exact ⟨by kernel_rfl, by kernel_rfl, by kernel_rfl, by kernel_rfl, by kernel_rfl, by kernel_rfl, by kernel_rfl⟩
 | 14, _, _ => exact ⟨by kernel_rfl, by kernel_rfl, by kernel_rfl, by kernel_rfl, by kernel_rfl, by kernel_rfl, by kernel_rfl⟩
 | 15, _, _ => exact ⟨by kernel_rfl, by kernel_rfl, by kernel_rfl, by kernel_rfl, by kernel_rfl, by kernel_rfl, by kernel_rfl⟩
 | 16, _, _ => exact ⟨by kernel_rfl, by kernel_rfl, by kernel_rfl, by kernel_rfl, by kernel_rfl, by kernel_rfl, by kernel_rfl⟩
 | 17, _, _ => exact ⟨by kernel_rfl, by kernel_rfl, by kernel_rfl, by kernel_rfl, by kernel_rfl, by kernel_rfl, by kernel_rfl⟩
 | n + 18, _, h => exact absurd h (by omega)
theorem ruleOf_yes (k : Nat) (w : World) (h1 : 1 ≤ k) (h2 : k ≤ 17) : Calls Try.prog 101 #[.int .i64 k] w fun e w' => e = .returned (ruV (ruT k)) ∧ Below w.heap.size w w' := by
 have HK : Hid (isK k = true) := show (decide (1 ≤ (k : Int)) && decide ((k : Int) ≤ 17)) = true by rw [decide_eq_true (by omega : 1 ≤ (k : Int)), decide_eq_true (by omega : (k : Int) ≤ 17)]; rfl
 obtain ⟨c0, c1, c2, c3, c4, c5, c6⟩ := ru_at k h1 h2
 have zW := (Go.zero_of_info ru_info).1
 have k0 : (0 : Int) ≤ k := by omega
 have k18 : (k : Int) < 18 := by omega
 have HZ : Hid ((w.alloc (.cells #[.int .u8 0, .int .u8 0, .int .u8 0, .int .u8 0, .bool false, .bool false, .bool false] 160)).heap.size = w.heap.size + 1) := al_size _ _
 clear h1 h2
 go_enter Try.func101, Try.ntmps101
 go_upto_region 2 with (first
  | (refine Gu.c1_wpList_pureAt 4 18 _ _ _ ⟨#[.int .i64 k, undef, .pointer (some ⟨w.heap.size, 0, none⟩), undef, .agg #[.int .u8 0, .int .u8 0, .int .u8 0, .int .u8 1, .bool true, .bool false, .bool false], .agg #[.int .u8 0, .int .u8 11, .int .u8 0, .int .u8 0, .bool true, .bool false, .bool false], .agg #[.int .u8 0, .int .u8 11, .int .u8 1, .int .u8 0, .bool false, .bool false, .bool false], .agg #[.int .u8 0, .int .u8 15, .int .u8 2, .int .u8 0, .bool true, .bool false, .bool false], .agg #[.int .u8 0, .int .u8 6, .int .u8 1, .int .u8 0, .bool true, .bool false, .bool false], .agg #[.int .u8 0, .int .u8 0, .int .u8 3, .int .u8 0, .bool true, .bool false, .bool false], .agg #[.int .u8 0, .int .u8 12, .int .u8 3, .int .u8 0, .bool true, .bool false, .bool false], .agg #[.int .u8 0, .int .u8 15, .int .u8 1, .int .u8 0, .bool true, .bool false, .bool false], .agg #[.int .u8 0, .int .u8 4, .int .u8 1, .int .u8 3, .bool true, .bool true, .bool false], .agg #[.int .u8 0, .int .u8 2, .int .u8 2, .int .u8 3, .bool false, .bool true, .bool false], .agg #[.int .u8 0, .int .u8 0, .int .u8 0, .int .u8 3, .bool false, .bool true, .bool false], .agg #[.int .u8 0, .int .u8 0, .int .u8 1, .int .u8 3, .bool false, .bool true, .bool false], .agg #[.int .u8 1, .int .u8 7, .int .u8 1, .int .u8 3, .bool false, .bool true, .bool false], .agg #[.int .u8 1, .int .u8 7, .int .u8 0, .int .u8 7, .bool false, .bool true, .bool true], .agg #[.int .u8 0, .int .u8 0, .int .u8 0, .int .u8 3, .bool false, .bool true, .bool true], .agg #[.int .u8 0, .int .u8 0, .int .u8 1, .int .u8 2, .bool false, .bool true, .bool true], .agg #[.int .u8 0, .int .u8 0, .int .u8 0, .int .u8 0, .bool true, .bool false, .bool false], .agg ruC, undef, undef, undef, undef, undef, undef, undef], []⟩ rfl (by kernel_rfl) ?_; simp only [List.drop_succ_cons, List.drop_zero])
  | (refine Gu.c1_wpList_alloc_as rfl 204 rfl _ zW (w.heap.size + 1) HZ.out ?_)
  | (refine wpList_store_row rfl 204 _ _ rfl (w.heap.size + 1) ruC (by rfl) (by rfl) 204 ruZ (al2 w _ _).2 (Go.zero_of_info ru_info).2 (by rfl) (by kernel_rfl) ?_; rw [setRow_alloc2]))
 go_wp2_with (go_at_call 139; refine (isKind_any k _).mono ?_; rintro e w1 ⟨rfl, rfl⟩; rw [HK.out])
 exact bodyPost_ret (v := ruV (ruT k)) (by simp [results, Try.results101, go_sem]) rfl ⟨rfl, by (repeat first | with_reducible exact Below.refl _ _ | with_reducible exact hB | with_reducible refine Below.drew ?_ | with_reducible refine below_drewN ?_ _ | with_reducible refine Below.alloc ?_ (by first | (simp; done) | (simp; omega) | omega) _ | with_reducible refine Below.setCell ?_ (by first | (simp; done) | (simp; omega) | omega) _)⟩
theorem ruleOf_no (k : Int) (w : World) (h : ¬ (1 ≤ k ∧ k ≤ 17)) : Calls Try.prog 101 #[.int .i64 k] w fun e w' => e = .returned (.agg #[.int .u8 0, .int .u8 0, .int .u8 0, .int .u8 0, .bool false, .bool false, .bool false]) ∧ Below w.heap.size w w' := by
 have HK : Hid (isK k = false) := show isK k = false by unfold isK; rw [← Bool.decide_and]; exact decide_eq_false h
 have zW := (Go.zero_of_info ru_info).1
 have HZ : Hid ((w.alloc (.cells #[.int .u8 0, .int .u8 0, .int .u8 0, .int .u8 0, .bool false, .bool false, .bool false] 160)).heap.size = w.heap.size + 1) := al_size _ _
 clear h
 go_enter Try.func101, Try.ntmps101
 go_upto_region 2 with (first
  | (refine Gu.c1_wpList_pureAt 4 18 _ _ _ ⟨#[.int .i64 k, undef, .pointer (some ⟨w.heap.size, 0, none⟩), undef, .agg #[.int .u8 0, .int .u8 0, .int .u8 0, .int .u8 1, .bool true, .bool false, .bool false], .agg #[.int .u8 0, .int .u8 11, .int .u8 0, .int .u8 0, .bool true, .bool false, .bool false], .agg #[.int .u8 0, .int .u8 11, .int .u8 1, .int .u8 0, .bool false, .bool false, .bool false], .agg #[.int .u8 0, .int .u8 15, .int .u8 2, .int .u8 0, .bool true, .bool false, .bool false], .agg #[.int .u8 0, .int .u8 6, .int .u8 1, .int .u8 0, .bool true, .bool false, .bool false], .agg #[.int .u8 0, .int .u8 0, .int .u8 3, .int .u8 0, .bool true, .bool false, .bool false], .agg #[.int .u8 0, .int .u8 12, .int .u8 3, .int .u8 0, .bool true, .bool false, .bool false], .agg #[.int .u8 0, .int .u8 15, .int .u8 1, .int .u8 0, .bool true, .bool false, .bool false], .agg #[.int .u8 0, .int .u8 4, .int .u8 1, .int .u8 3, .bool true, .bool true, .bool false], .agg #[.int .u8 0, .int .u8 2, .int .u8 2, .int .u8 3, .bool false, .bool true, .bool false], .agg #[.int .u8 0, .int .u8 0, .int .u8 0, .int .u8 3, .bool false, .bool true, .bool false], .agg #[.int .u8 0, .int .u8 0, .int .u8 1, .int .u8 3, .bool false, .bool true, .bool false], .agg #[.int .u8 1, .int .u8 7, .int .u8 1, .int .u8 3, .bool false, .bool true, .bool false], .agg #[.int .u8 1, .int .u8 7, .int .u8 0, .int .u8 7, .bool false, .bool true, .bool true], .agg #[.int .u8 0, .int .u8 0, .int .u8 0, .int .u8 3, .bool false, .bool true, .bool true], .agg #[.int .u8 0, .int .u8 0, .int .u8 1, .int .u8 2, .bool false, .bool true, .bool true], .agg #[.int .u8 0, .int .u8 0, .int .u8 0, .int .u8 0, .bool true, .bool false, .bool false], .agg ruC, undef, undef, undef, undef, undef, undef, undef], []⟩ rfl (by kernel_rfl) ?_; simp only [List.drop_succ_cons, List.drop_zero])
  | (refine Gu.c1_wpList_alloc_as rfl 204 rfl _ zW (w.heap.size + 1) HZ.out ?_)
  | (refine wpList_store_row rfl 204 _ _ rfl (w.heap.size + 1) ruC (by rfl) (by rfl) 204 ruZ (al2 w _ _).2 (Go.zero_of_info ru_info).2 (by rfl) (by kernel_rfl) ?_; rw [setRow_alloc2]))
 go_wp2_with (go_at_call 139; refine (isKind_any k _).mono ?_; rintro e w1 ⟨rfl, rfl⟩; rw [HK.out])
 exact bodyPost_ret (v := .agg #[.int .u8 0, .int .u8 0, .int .u8 0, .int .u8 0, .bool false, .bool false, .bool false]) (by simp [results, Try.results101, go_sem]) rfl ⟨rfl, by (repeat first | with_reducible exact Below.refl _ _ | with_reducible exact hB | with_reducible refine Below.drew ?_ | with_reducible refine below_drewN ?_ _ | with_reducible refine Below.alloc ?_ (by first | (simp; done) | (simp; omega) | omega) _ | with_reducible refine Below.setCell ?_ (by first | (simp; done) | (simp; omega) | omega) _)⟩
theorem ruleOf_any (k : Int) (w : World) : Calls Try.prog 101 #[.int .i64 k] w fun e w' => e = .returned (ruV (ru k)) ∧ Below w.heap.size w w' := by
 by_cases h : 1 ≤ k ∧ k ≤ 17
 ·obtain ⟨n, rfl⟩ : ∃ n : Nat, k = n := ⟨k.toNat, by omega⟩
  exact ruleOf_yes n w (by omega) (by omega)
 ·rw [ru_no k h]
  exact ruleOf_no k w h
theorem ruleOf_me (k : Int) (R : RU) (w : World) (hR : ru k = R) : Calls Try.prog 101 #[.int .i64 k] w fun e w' => e = .returned (.agg #[.int .u8 R.lo, .int .u8 R.hi, .int .u8 R.takes, .int .u8 R.has, .bool R.gives, .bool R.leaves, .bool R.ends]) ∧ Below w.heap.size w w' := hR ▸ ruleOf_any k w
theorem ru_gives (R : RU) (w : World) : (Instr.field 160 (.agg #[.int .u8 R.lo, .int .u8 R.hi, .int .u8 R.takes, .int .u8 R.has, .bool R.gives, .bool R.leaves, .bool R.ends]) 4).run Try.prog w = .ok (.bool R.gives) w := by
 simp [Instr.field, Try.underlying160, go_sem, part, asAgg]
theorem ru_ends (R : RU) (w : World) : (Instr.field 160 (.agg #[.int .u8 R.lo, .int .u8 R.hi, .int .u8 R.takes, .int .u8 R.has, .bool R.gives, .bool R.leaves, .bool R.ends]) 6).run Try.prog w = .ok (.bool R.ends) w := by
 simp [Instr.field, Try.underlying160, go_sem, part, asAgg]
theorem pgives_any (k : Int) (w : World) : Calls Try.prog 44 #[.int .i64 k] w fun e w' => e = .returned (.bool (rr k).gives) ∧ Below w.heap.size w w' := by
 obtain ⟨R, HR⟩ : ∃ R, Hid (ru k = R) := ⟨_, rfl⟩
 have HF := ru_gives R
 rw [← (ru_rr k).2.2.1]
 go_enter Try.func44, Try.ntmps44
 go_wp2_with (go_at_call 101; refine (ruleOf_me k R _ HR.out).mono ?_; rintro e w1 ⟨rfl, h1⟩)
 go_ret
 exact ⟨by rw [HR.out]; rfl, h1⟩
end Go.Proofs.Ytkgbjpdoigdjnaa
