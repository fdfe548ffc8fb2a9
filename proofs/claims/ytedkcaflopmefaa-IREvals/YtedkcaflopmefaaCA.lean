import Derived.Test.YtedkcaflopmefaaCX
import Derived.Deep.RegionHeld3
import Derived.Deep.CutBlock
import Derived.Below
namespace Go.Proofs.Ytedkcaflopmefaa
open Go.RowKit
set_option maxRecDepth 100000
set_option linter.unusedVariables false
set_option linter.unusedSimpArgs false

/-! ## Operations, and the rules of their kinds -/
structure OpR where
  kind : Int
  w : Int
  a : Int
  b : Int
  c : Int
  k : Nat
  n : Int
abbrev opA (o : OpR) : Array Value := #[.int .i64 o.kind, .int .i64 o.w, .int .i64 o.a, .int .i64 o.b, .int .i64 o.c, .int .u32 o.k, .int .i64 o.n]
abbrev opV (o : OpR) : Value := .agg (opA o)
structure RR where
  lo : Int
  hi : Int
  m : Int
  gives : Bool
  ends : Bool
abbrev rrA (r : RR) : Array Value := #[.int .u8 r.lo, .int .u8 r.hi, .int .u8 r.m, .bool r.gives, .bool r.ends]
abbrev rrV (r : RR) : Value := .agg (rrA r)
def rrT (k : Nat) : RR :=
  match k with
  | 1 => ⟨0, 0, 8, true, false⟩
  | 2 => ⟨0, 11, 0, true, false⟩
  | 3 => ⟨0, 11, 1, false, false⟩
  | 4 => ⟨0, 15, 3, true, false⟩
  | 5 => ⟨0, 6, 1, true, false⟩
  | 6 => ⟨0, 0, 7, true, false⟩
  | 7 => ⟨0, 12, 7, true, false⟩
  | 8 => ⟨0, 15, 1, true, false⟩
  | 9 => ⟨0, 4, 25, true, false⟩
  | 10 => ⟨0, 2, 27, false, false⟩
  | 11 => ⟨0, 0, 24, false, false⟩
  | 12 => ⟨0, 0, 25, false, false⟩
  | 13 => ⟨1, 7, 25, false, false⟩
  | 14 => ⟨1, 7, 56, false, true⟩
  | 15 => ⟨0, 0, 24, false, true⟩
  | 16 => ⟨0, 0, 17, false, true⟩
  | 17 => ⟨0, 0, 0, true, false⟩
  | _ => ⟨0, 0, 0, false, false⟩
def isK (kind : Int) : Bool := decide (1 ≤ kind) && decide (kind ≤ 17)
def rr (kind : Int) : RR := rrT kind.toNat
theorem rr_no (kind : Int) (h : ¬ (1 ≤ kind ∧ kind ≤ 17)) : rr kind = ⟨0, 0, 0, false, false⟩ := by
  unfold rr rrT
  split <;> first | rfl | (exfalso; omega)

theorem within_any (n m : Int) (w : World) : Calls Try.prog 99 #[.int .i64 n, .int .i64 m] w fun e w' => e = .returned (.bool (decide (0 ≤ n ∧ n ≤ m))) ∧ w = w' := by
  by_cases h0 : 0 ≤ n
  · by_cases h1 : n ≤ m
    · have d : decide (0 ≤ n ∧ n ≤ m) = true := decide_eq_true ⟨h0, h1⟩
      have d1 : decide (n ≤ m) = true := decide_eq_true h1
      have d0 : decide (0 ≤ n) = true := decide_eq_true h0
      rw [d]
      go_enter Try.func99, Try.ntmps99; go_wp2; go_ret; exact ⟨rfl, rfl⟩
    · have d : decide (0 ≤ n ∧ n ≤ m) = false := decide_eq_false (fun h => h1 h.2)
      have d1 : decide (n ≤ m) = false := decide_eq_false h1
      have d0 : decide (0 ≤ n) = true := decide_eq_true h0
      rw [d]
      clear d
      go_enter Try.func99, Try.ntmps99; go_wp2; go_ret; exact ⟨rfl, rfl⟩
  · have d : decide (0 ≤ n ∧ n ≤ m) = false := decide_eq_false (fun h => h0 h.1)
    have d0 : decide (0 ≤ n) = false := decide_eq_false h0
    rw [d]
    clear d
    go_enter Try.func99, Try.ntmps99; go_wp2; go_ret; exact ⟨rfl, rfl⟩
theorem isKind_any (n : Int) (w : World) : Calls Try.prog 139 #[.int .i64 n] w fun e w' => e = .returned (.bool (isK n)) ∧ w = w' := by
  by_cases h0 : 1 ≤ n
  · have d0 : decide (1 ≤ n) = true := decide_eq_true h0
    by_cases h1 : n ≤ 17
    · have d1 : decide (n ≤ 17) = true := decide_eq_true h1
      rw [show isK n = true by simp [isK, h0, h1]]
      go_enter Try.func139, Try.ntmps139; go_wp2; go_ret; exact ⟨rfl, rfl⟩
    · have d1 : decide (n ≤ 17) = false := decide_eq_false h1
      rw [show isK n = false by simp [isK, h1]]
      go_enter Try.func139, Try.ntmps139; go_wp2; go_ret; exact ⟨rfl, rfl⟩
  · have d0 : decide (1 ≤ n) = false := decide_eq_false h0
    rw [show isK n = false by simp [isK, h0]]
    go_enter Try.func139, Try.ntmps139; go_wp2; go_ret; exact ⟨rfl, rfl⟩
def rfin (kind : Int) : Bool := decide (14 ≤ kind ∧ kind ≤ 16)
theorem final_any (n : Int) (w : World) : Calls Try.prog 105 #[.int .i64 n] w fun e w' => e = .returned (.bool (rfin n)) ∧ w = w' := by
  by_cases h0 : 14 ≤ n
  · have d0 : decide (14 ≤ n) = true := decide_eq_true h0
    by_cases h1 : n ≤ 16
    · have d1 : decide (n ≤ 16) = true := decide_eq_true h1
      rw [show rfin n = true by simp [rfin, h0, h1]]
      go_enter Try.func105, Try.ntmps105; go_wp2; go_ret; exact ⟨rfl, rfl⟩
    · have d1 : decide (n ≤ 16) = false := decide_eq_false h1
      rw [show rfin n = false by simp [rfin, h1]]
      go_enter Try.func105, Try.ntmps105; go_wp2; go_ret; exact ⟨rfl, rfl⟩
  · have d0 : decide (14 ≤ n) = false := decide_eq_false h0
    rw [show rfin n = false by simp [rfin, h0]]
    go_enter Try.func105, Try.ntmps105; go_wp2; go_ret; exact ⟨rfl, rfl⟩
def rgiv (kind : Int) : Bool := decide ((1 ≤ kind ∧ kind ≤ 9 ∧ kind ≠ 3) ∨ kind = 17)
theorem rgives_any (n : Int) (w : World) : Calls Try.prog 45 #[.int .i64 n] w fun e w' => e = .returned (.bool (rgiv n)) ∧ w = w' := by
  by_cases h0 : 1 ≤ n
  · have d0 : decide (1 ≤ n) = true := decide_eq_true h0
    by_cases h1 : n ≤ 9
    · have d1 : decide (n ≤ 9) = true := decide_eq_true h1
      by_cases h3 : n = 3
      · subst h3
        rw [show rgiv 3 = false by decide]
        clear d0 d1 h0 h1
        go_enter Try.func45, Try.ntmps45; go_wp2; go_ret; exact ⟨rfl, rfl⟩
      · have d3 : (n != 3) = true := by simpa using h3
        rw [show rgiv n = true by simp [rgiv, h0, h1, h3]]
        go_enter Try.func45, Try.ntmps45; go_wp2; go_ret; exact ⟨rfl, rfl⟩
    · have d1 : decide (n ≤ 9) = false := decide_eq_false h1
      by_cases h3 : n = 17
      · subst h3
        rw [show rgiv 17 = true by decide]
        clear d0 d1 h0 h1
        go_enter Try.func45, Try.ntmps45; go_wp2; go_ret; exact ⟨rfl, rfl⟩
      · have d3 : (n == 17) = false := by simpa using h3
        rw [show rgiv n = false by simp [rgiv, h1, h3]]
        go_enter Try.func45, Try.ntmps45; go_wp2; go_ret; exact ⟨rfl, rfl⟩
  · have d0 : decide (1 ≤ n) = false := decide_eq_false h0
    have d3 : (n == 17) = false := by simp; omega
    rw [show rgiv n = false by simp [rgiv, h0]; omega]
    go_enter Try.func45, Try.ntmps45; go_wp2; go_ret; exact ⟨rfl, rfl⟩

/-! ## The table of rules -/
def ruL : List Value := [.int .u8 0, .int .u8 0, .int .u8 0, .bool false, .bool false, .int .u8 0, .int .u8 0, .int .u8 8, .bool true, .bool false, .int .u8 0, .int .u8 11, .int .u8 0, .bool true, .bool false, .int .u8 0, .int .u8 11, .int .u8 1, .bool false, .bool false, .int .u8 0, .int .u8 15, .int .u8 3, .bool true, .bool false, .int .u8 0, .int .u8 6, .int .u8 1, .bool true, .bool false, .int .u8 0, .int .u8 0, .int .u8 7, .bool true, .bool false, .int .u8 0, .int .u8 12, .int .u8 7, .bool true, .bool false, .int .u8 0, .int .u8 15, .int .u8 1, .bool true, .bool false, .int .u8 0, .int .u8 4, .int .u8 25, .bool true, .bool false, .int .u8 0, .int .u8 2, .int .u8 27, .bool false, .bool false, .int .u8 0, .int .u8 0, .int .u8 24, .bool false, .bool false, .int .u8 0, .int .u8 0, .int .u8 25, .bool false, .bool false, .int .u8 1, .int .u8 7, .int .u8 25, .bool false, .bool false, .int .u8 1, .int .u8 7, .int .u8 56, .bool false, .bool true, .int .u8 0, .int .u8 0, .int .u8 24, .bool false, .bool true, .int .u8 0, .int .u8 0, .int .u8 17, .bool false, .bool true, .int .u8 0, .int .u8 0, .int .u8 0, .bool true, .bool false]
def ruC : Array Value := ruL.toArray
def ruZ : Array Value := #[.int .u8 0, .int .u8 0, .int .u8 0, .bool false, .bool false, .int .u8 0, .int .u8 0, .int .u8 0, .bool false, .bool false, .int .u8 0, .int .u8 0, .int .u8 0, .bool false, .bool false, .int .u8 0, .int .u8 0, .int .u8 0, .bool false, .bool false, .int .u8 0, .int .u8 0, .int .u8 0, .bool false, .bool false, .int .u8 0, .int .u8 0, .int .u8 0, .bool false, .bool false, .int .u8 0, .int .u8 0, .int .u8 0, .bool false, .bool false, .int .u8 0, .int .u8 0, .int .u8 0, .bool false, .bool false, .int .u8 0, .int .u8 0, .int .u8 0, .bool false, .bool false, .int .u8 0, .int .u8 0, .int .u8 0, .bool false, .bool false, .int .u8 0, .int .u8 0, .int .u8 0, .bool false, .bool false, .int .u8 0, .int .u8 0, .int .u8 0, .bool false, .bool false, .int .u8 0, .int .u8 0, .int .u8 0, .bool false, .bool false, .int .u8 0, .int .u8 0, .int .u8 0, .bool false, .bool false, .int .u8 0, .int .u8 0, .int .u8 0, .bool false, .bool false, .int .u8 0, .int .u8 0, .int .u8 0, .bool false, .bool false, .int .u8 0, .int .u8 0, .int .u8 0, .bool false, .bool false, .int .u8 0, .int .u8 0, .int .u8 0, .bool false, .bool false]
theorem ru_info : (Try.prog.info? 204).map (fun i => (i.zero, i.size)) = some (some (.agg ruZ), 90) := by kernel_rfl
theorem ru_at (k : Nat) (h1 : 1 ≤ k) (h2 : k ≤ 17) : ruC[k * 5]? = some (.int .u8 (rrT k).lo) ∧ ruC[k * 5 + 1]? = some (.int .u8 (rrT k).hi) ∧ ruC[k * 5 + 2]? = some (.int .u8 (rrT k).m) ∧ ruC[k * 5 + 3]? = some (.bool (rrT k).gives) ∧ ruC[k * 5 + 4]? = some (.bool (rrT k).ends) := by
  match k, h1, h2 with
  | 1, _, _ => exact ⟨by kernel_rfl, by kernel_rfl, by kernel_rfl, by kernel_rfl, by kernel_rfl⟩
  | 2, _, _ => exact ⟨by kernel_rfl, by kernel_rfl, by kernel_rfl, by kernel_rfl, by kernel_rfl⟩
  | 3, _, _ => exact ⟨by kernel_rfl, by kernel_rfl, by kernel_rfl, by kernel_rfl, by kernel_rfl⟩
  | 4, _, _ => exact ⟨by kernel_rfl, by kernel_rfl, by kernel_rfl, by kernel_rfl, by kernel_rfl⟩
  | 5, _, _ => exact ⟨by kernel_rfl, by kernel_rfl, by kernel_rfl, by kernel_rfl, by kernel_rfl⟩
  | 6, _, _ => exact ⟨by kernel_rfl, by kernel_rfl, by kernel_rfl, by kernel_rfl, by kernel_rfl⟩
  | 7, _, _ => exact ⟨by kernel_rfl, by kernel_rfl, by kernel_rfl, by kernel_rfl, by kernel_rfl⟩
  | 8, _, _ => exact ⟨by kernel_rfl, by kernel_rfl, by kernel_rfl, by kernel_rfl, by kernel_rfl⟩
  | 9, _, _ => exact ⟨by kernel_rfl, by kernel_rfl, by kernel_rfl, by kernel_rfl, by kernel_rfl⟩
  | 10, _, _ => exact ⟨by kernel_rfl, by kernel_rfl, by kernel_rfl, by kernel_rfl, by kernel_rfl⟩
  | 11, _, _ => exact ⟨by kernel_rfl, by kernel_rfl, by kernel_rfl, by kernel_rfl, by kernel_rfl⟩
  | 12, _, _ => exact ⟨by kernel_rfl, by kernel_rfl, by kernel_rfl, by kernel_rfl, by kernel_rfl⟩
  | 13, _, _ => exact ⟨by kernel_rfl, by kernel_rfl, by kernel_rfl, by kernel_rfl, by kernel_rfl⟩
  | 14, _, _ => exact ⟨by kernel_rfl, by kernel_rfl, by kernel_rfl, by kernel_rfl, by kernel_rfl⟩
  | 15, _, _ => exact ⟨by kernel_rfl, by kernel_rfl, by kernel_rfl, by kernel_rfl, by kernel_rfl⟩
  | 16, _, _ => exact ⟨by kernel_rfl, by kernel_rfl, by kernel_rfl, by kernel_rfl, by kernel_rfl⟩
  | 17, _, _ => exact ⟨by kernel_rfl, by kernel_rfl, by kernel_rfl, by kernel_rfl, by kernel_rfl⟩
  | n + 18, _, h => exact absurd h (by omega)
theorem setRow_alloc2 (w : World) (o1 : Obj) (Z C : Array Value) (T : TypeId) : ((w.alloc o1).alloc (.cells Z T)).setRow (w.heap.size + 1) C = (w.alloc o1).alloc (.cells C T) := by
  have := World.setRow_alloc_new (w.alloc o1) Z C T
  rwa [al_size] at this
set_option maxHeartbeats 1000000 in
theorem ruleOf_yes (k : Nat) (w : World) (h1 : 1 ≤ k) (h2 : k ≤ 17) : Calls Try.prog 101 #[.int .i64 k] w fun e w' => e = .returned (rrV (rrT k)) ∧ Below w.heap.size w w' := by
  have HK : Hid (isK k = true) := show (decide (1 ≤ (k : Int)) && decide ((k : Int) ≤ 17)) = true by rw [decide_eq_true (by omega : 1 ≤ (k : Int)), decide_eq_true (by omega : (k : Int) ≤ 17)]; rfl
  obtain ⟨c0, c1, c2, c3, c4⟩ := ru_at k h1 h2
  have zW := (Go.zero_of_info ru_info).1
  have k0 : (0 : Int) ≤ k := by omega
  have k18 : (k : Int) < 18 := by omega
  have HZ : Hid ((w.alloc (.cells #[.int .u8 0, .int .u8 0, .int .u8 0, .bool false, .bool false] 160)).heap.size = w.heap.size + 1) := al_size _ _
  clear h1 h2
  go_enter Try.func101, Try.ntmps101
  go_upto_region 2 with (first
    | (refine Gu.wpList_pureAt 4 18 _ _ _ ⟨#[.int .i64 k, undef, .pointer (some ⟨w.heap.size, 0, none⟩), undef, .agg #[.int .u8 0, .int .u8 0, .int .u8 8, .bool true, .bool false], .agg #[.int .u8 0, .int .u8 11, .int .u8 0, .bool true, .bool false], .agg #[.int .u8 0, .int .u8 11, .int .u8 1, .bool false, .bool false], .agg #[.int .u8 0, .int .u8 15, .int .u8 3, .bool true, .bool false], .agg #[.int .u8 0, .int .u8 6, .int .u8 1, .bool true, .bool false], .agg #[.int .u8 0, .int .u8 0, .int .u8 7, .bool true, .bool false], .agg #[.int .u8 0, .int .u8 12, .int .u8 7, .bool true, .bool false], .agg #[.int .u8 0, .int .u8 15, .int .u8 1, .bool true, .bool false], .agg #[.int .u8 0, .int .u8 4, .int .u8 25, .bool true, .bool false], .agg #[.int .u8 0, .int .u8 2, .int .u8 27, .bool false, .bool false], .agg #[.int .u8 0, .int .u8 0, .int .u8 24, .bool false, .bool false], .agg #[.int .u8 0, .int .u8 0, .int .u8 25, .bool false, .bool false], .agg #[.int .u8 1, .int .u8 7, .int .u8 25, .bool false, .bool false], .agg #[.int .u8 1, .int .u8 7, .int .u8 56, .bool false, .bool true], .agg #[.int .u8 0, .int .u8 0, .int .u8 24, .bool false, .bool true], .agg #[.int .u8 0, .int .u8 0, .int .u8 17, .bool false, .bool true], .agg #[.int .u8 0, .int .u8 0, .int .u8 0, .bool true, .bool false], .agg ruC, undef, undef, undef, undef, undef, undef, undef], []⟩ rfl (by kernel_rfl) ?_; simp only [List.drop_succ_cons, List.drop_zero])
    | (refine Gu.wpList_alloc_as rfl 204 rfl _ zW (w.heap.size + 1) HZ.out ?_)
    | (refine wpList_store_row rfl 204 _ _ rfl (w.heap.size + 1) ruC (by rfl) (by rfl) 204 ruZ (al2 w _ _).2 (Go.zero_of_info ru_info).2 (by rfl) (by kernel_rfl) ?_; rw [setRow_alloc2]))
  go_wp2_with (go_at_call 139; refine (isKind_any k _).mono ?_; rintro e w1 ⟨rfl, rfl⟩; rw [HK.out])
  exact bodyPost_ret (v := rrV (rrT k)) (by simp [results, Try.results101, go_sem]) rfl ⟨rfl, by (repeat first | with_reducible exact Below.refl _ _ | with_reducible exact hB | with_reducible refine Below.drew ?_ | with_reducible refine Below.alloc ?_ (by first | (simp; done) | (simp; omega) | omega) _ | with_reducible refine Below.setCell ?_ (by first | (simp; done) | (simp; omega) | omega) _)⟩
set_option maxHeartbeats 1000000 in
theorem ruleOf_no (k : Int) (w : World) (h : ¬ (1 ≤ k ∧ k ≤ 17)) : Calls Try.prog 101 #[.int .i64 k] w fun e w' => e = .returned (.agg #[.int .u8 0, .int .u8 0, .int .u8 0, .bool false, .bool false]) ∧ Below w.heap.size w w' := by
  have HK : Hid (isK k = false) := show isK k = false by unfold isK; rw [← Bool.decide_and]; exact decide_eq_false h
  have zW := (Go.zero_of_info ru_info).1
  have HZ : Hid ((w.alloc (.cells #[.int .u8 0, .int .u8 0, .int .u8 0, .bool false, .bool false] 160)).heap.size = w.heap.size + 1) := al_size _ _
  clear h
  go_enter Try.func101, Try.ntmps101
  go_upto_region 2 with (first
    | (refine Gu.wpList_pureAt 4 18 _ _ _ ⟨#[.int .i64 k, undef, .pointer (some ⟨w.heap.size, 0, none⟩), undef, .agg #[.int .u8 0, .int .u8 0, .int .u8 8, .bool true, .bool false], .agg #[.int .u8 0, .int .u8 11, .int .u8 0, .bool true, .bool false], .agg #[.int .u8 0, .int .u8 11, .int .u8 1, .bool false, .bool false], .agg #[.int .u8 0, .int .u8 15, .int .u8 3, .bool true, .bool false], .agg #[.int .u8 0, .int .u8 6, .int .u8 1, .bool true, .bool false], .agg #[.int .u8 0, .int .u8 0, .int .u8 7, .bool true, .bool false], .agg #[.int .u8 0, .int .u8 12, .int .u8 7, .bool true, .bool false], .agg #[.int .u8 0, .int .u8 15, .int .u8 1, .bool true, .bool false], .agg #[.int .u8 0, .int .u8 4, .int .u8 25, .bool true, .bool false], .agg #[.int .u8 0, .int .u8 2, .int .u8 27, .bool false, .bool false], .agg #[.int .u8 0, .int .u8 0, .int .u8 24, .bool false, .bool false], .agg #[.int .u8 0, .int .u8 0, .int .u8 25, .bool false, .bool false], .agg #[.int .u8 1, .int .u8 7, .int .u8 25, .bool false, .bool false], .agg #[.int .u8 1, .int .u8 7, .int .u8 56, .bool false, .bool true], .agg #[.int .u8 0, .int .u8 0, .int .u8 24, .bool false, .bool true], .agg #[.int .u8 0, .int .u8 0, .int .u8 17, .bool false, .bool true], .agg #[.int .u8 0, .int .u8 0, .int .u8 0, .bool true, .bool false], .agg ruC, undef, undef, undef, undef, undef, undef, undef], []⟩ rfl (by kernel_rfl) ?_; simp only [List.drop_succ_cons, List.drop_zero])
    | (refine Gu.wpList_alloc_as rfl 204 rfl _ zW (w.heap.size + 1) HZ.out ?_)
    | (refine wpList_store_row rfl 204 _ _ rfl (w.heap.size + 1) ruC (by rfl) (by rfl) 204 ruZ (al2 w _ _).2 (Go.zero_of_info ru_info).2 (by rfl) (by kernel_rfl) ?_; rw [setRow_alloc2]))
  go_wp2_with (go_at_call 139; refine (isKind_any k _).mono ?_; rintro e w1 ⟨rfl, rfl⟩; rw [HK.out])
  exact bodyPost_ret (v := .agg #[.int .u8 0, .int .u8 0, .int .u8 0, .bool false, .bool false]) (by simp [results, Try.results101, go_sem]) rfl ⟨rfl, by (repeat first | with_reducible exact Below.refl _ _ | with_reducible exact hB | with_reducible refine Below.drew ?_ | with_reducible refine Below.alloc ?_ (by first | (simp; done) | (simp; omega) | omega) _ | with_reducible refine Below.setCell ?_ (by first | (simp; done) | (simp; omega) | omega) _)⟩
theorem ruleOf_any (k : Int) (w : World) : Calls Try.prog 101 #[.int .i64 k] w fun e w' => e = .returned (rrV (rr k)) ∧ Below w.heap.size w w' := by
  by_cases h : 1 ≤ k ∧ k ≤ 17
  · obtain ⟨n, rfl⟩ : ∃ n : Nat, k = n := ⟨k.toNat, by omega⟩
    exact ruleOf_yes n w (by omega) (by omega)
  · rw [rr_no k h]
    exact ruleOf_no k w h
theorem ruleOf_me (k : Int) (R : RR) (w : World) (hR : rr k = R) : Calls Try.prog 101 #[.int .i64 k] w fun e w' => e = .returned (.agg #[.int .u8 R.lo, .int .u8 R.hi, .int .u8 R.m, .bool R.gives, .bool R.ends]) ∧ Below w.heap.size w w' := hR ▸ ruleOf_any k w
theorem rr_gives (R : RR) (w : World) : (Instr.field 160 (.agg #[.int .u8 R.lo, .int .u8 R.hi, .int .u8 R.m, .bool R.gives, .bool R.ends]) 3).run Try.prog w = .ok (.bool R.gives) w := by
  simp [Instr.field, Try.underlying160, go_sem, part, asAgg]
theorem rr_ends (R : RR) (w : World) : (Instr.field 160 (.agg #[.int .u8 R.lo, .int .u8 R.hi, .int .u8 R.m, .bool R.gives, .bool R.ends]) 4).run Try.prog w = .ok (.bool R.ends) w := by
  simp [Instr.field, Try.underlying160, go_sem, part, asAgg]
theorem pgives_any (k : Int) (w : World) : Calls Try.prog 44 #[.int .i64 k] w fun e w' => e = .returned (.bool (rr k).gives) ∧ Below w.heap.size w w' := by
  obtain ⟨R, HR⟩ : ∃ R, Hid (rr k = R) := ⟨_, rfl⟩
  go_enter Try.func44, Try.ntmps44
  go_wp2_with (go_at_call 101; refine (ruleOf_me k R _ HR.out).mono ?_; rintro e w1 ⟨rfl, h1⟩; have HF := rr_gives R)
  go_ret
  exact ⟨by rw [HR.out]; rfl, h1⟩
theorem giv_eq (k : Int) : rgiv k = (rr k).gives := by
  by_cases h : 1 ≤ k ∧ k ≤ 17
  · obtain ⟨n, rfl⟩ : ∃ n : Nat, k = n := ⟨k.toNat, by omega⟩
    have h1 : 1 ≤ n := by omega
    have h2 : n ≤ 17 := by omega
    match n, h1, h2 with
    | 1, _, _ | 2, _, _ | 3, _, _ | 4, _, _ | 5, _, _ | 6, _, _ | 7, _, _ | 8, _, _ | 9, _, _ | 10, _, _ | 11, _, _ | 12, _, _ | 13, _, _ | 14, _, _ | 15, _, _ | 16, _, _ | 17, _, _ => decide
    | n + 18, _, h => exact absurd h (by omega)
  · rw [rr_no k h]
    exact decide_eq_false (by omega)
theorem fin_eq (k : Int) : rfin k = (rr k).ends := by
  by_cases h : 1 ≤ k ∧ k ≤ 17
  · obtain ⟨n, rfl⟩ : ∃ n : Nat, k = n := ⟨k.toNat, by omega⟩
    have h1 : 1 ≤ n := by omega
    have h2 : n ≤ 17 := by omega
    match n, h1, h2 with
    | 1, _, _ | 2, _, _ | 3, _, _ | 4, _, _ | 5, _, _ | 6, _, _ | 7, _, _ | 8, _, _ | 9, _, _ | 10, _, _ | 11, _, _ | 12, _, _ | 13, _, _ | 14, _, _ | 15, _, _ | 16, _, _ | 17, _, _ => decide
    | n + 18, _, h => exact absurd h (by omega)
  · rw [rr_no k h]
    exact decide_eq_false (by omega)

/-! ## What the reference needs of a kind -/
def neL : List Value := [.int .i64 0, .int .i64 0, .string { data := #[] }, .int .i64 0, .int .i64 1, .string { data := #[107] }, .int .i64 0, .int .i64 12, .string { data := #[] }, .int .i64 0, .int .i64 12, .string { data := #[97] }, .int .i64 0, .int .i64 16, .string { data := #[97, 98] }, .int .i64 0, .int .i64 7, .string { data := #[97] }, .int .i64 0, .int .i64 1, .string { data := #[97, 98, 99] }, .int .i64 0, .int .i64 13, .string { data := #[97, 98, 99] }, .int .i64 0, .int .i64 16, .string { data := #[97] }, .int .i64 0, .int .i64 5, .string { data := #[97, 107, 110] }, .int .i64 0, .int .i64 3, .string { data := #[97, 98, 107, 110] }, .int .i64 0, .int .i64 1, .string { data := #[107, 110] }, .int .i64 0, .int .i64 1, .string { data := #[97, 107, 110] }, .int .i64 1, .int .i64 7, .string { data := #[97, 107, 110] }, .int .i64 1, .int .i64 7, .string { data := #[103, 107, 110] }, .int .i64 0, .int .i64 1, .string { data := #[107, 110] }, .int .i64 0, .int .i64 1, .string { data := #[97, 110] }, .int .i64 0, .int .i64 1, .string { data := #[] }]
def neC : Array Value := neL.toArray
structure NN where
  fr : Int
  so : Int
  s : ByteArray
abbrev nnA (x : NN) : Array Value := #[.int .i64 x.fr, .int .i64 x.so, .string x.s]
abbrev nnV (x : NN) : Value := .agg (nnA x)
def nnT (k : Nat) : NN :=
  match k with
  | 1 => ⟨0, 1, { data := #[107] }⟩
  | 2 => ⟨0, 12, { data := #[] }⟩
  | 3 => ⟨0, 12, { data := #[97] }⟩
  | 4 => ⟨0, 16, { data := #[97, 98] }⟩
  | 5 => ⟨0, 7, { data := #[97] }⟩
  | 6 => ⟨0, 1, { data := #[97, 98, 99] }⟩
  | 7 => ⟨0, 13, { data := #[97, 98, 99] }⟩
  | 8 => ⟨0, 16, { data := #[97] }⟩
  | 9 => ⟨0, 5, { data := #[97, 107, 110] }⟩
  | 10 => ⟨0, 3, { data := #[97, 98, 107, 110] }⟩
  | 11 => ⟨0, 1, { data := #[107, 110] }⟩
  | 12 => ⟨0, 1, { data := #[97, 107, 110] }⟩
  | 13 => ⟨1, 7, { data := #[97, 107, 110] }⟩
  | 14 => ⟨1, 7, { data := #[103, 107, 110] }⟩
  | 15 => ⟨0, 1, { data := #[107, 110] }⟩
  | 16 => ⟨0, 1, { data := #[97, 110] }⟩
  | 17 => ⟨0, 1, { data := #[] }⟩
  | _ => ⟨0, 0, { data := #[] }⟩
theorem ne_at (k : Nat) (h1 : 1 ≤ k) (h2 : k ≤ 17) : neC[k * 3]? = some (.int .i64 (nnT k).fr) ∧ neC[k * 3 + 1]? = some (.int .i64 (nnT k).so) ∧ neC[k * 3 + 2]? = some (.string (nnT k).s) := by
  match k, h1, h2 with
  | 1, _, _ | 2, _, _ | 3, _, _ | 4, _, _ | 5, _, _ | 6, _, _ | 7, _, _ | 8, _, _ | 9, _, _ | 10, _, _ | 11, _, _ | 12, _, _ | 13, _, _ | 14, _, _ | 15, _, _ | 16, _, _ | 17, _, _ => exact ⟨by kernel_rfl, by kernel_rfl, by kernel_rfl⟩
  | n + 18, _, h => exact absurd h (by omega)
set_option maxHeartbeats 1000000 in
theorem needs_yes (k : Nat) (w : World) (h1 : 1 ≤ k) (h2 : k ≤ 17) : Calls Try.prog 102 #[.int .i64 k] w fun e w' => e = .returned (.tuple #[nnV (nnT k), .bool true]) ∧ Below w.heap.size w w' := by
  obtain ⟨c0, c1, c2⟩ := ne_at k h1 h2
  have k0 : (0 : Int) ≤ k := by omega
  have k18 : (k : Int) < 18 := by omega
  have d0 : decide ((k : Int) < 1) = false := decide_eq_false (by omega)
  have d1 : decide (18 ≤ (k : Int)) = false := decide_eq_false (by omega)
  clear h1 h2
  go_enter Try.func102, Try.ntmps102
  go_upto_region 2 with (first
    | (refine Gu.wpList_pureAt 5 18 _ _ _ ⟨#[.int .i64 k, undef, .pointer (some ⟨w.heap.size, 0, none⟩), .bool false, undef, .agg #[.int .i64 0, .int .i64 0, .string { data := #[] }], .agg #[.int .i64 0, .int .i64 1, .string { data := #[107] }], .agg #[.int .i64 0, .int .i64 12, .string { data := #[] }], .agg #[.int .i64 0, .int .i64 12, .string { data := #[97] }], .agg #[.int .i64 0, .int .i64 16, .string { data := #[97, 98] }], .agg #[.int .i64 0, .int .i64 7, .string { data := #[97] }], .agg #[.int .i64 0, .int .i64 1, .string { data := #[97, 98, 99] }], .agg #[.int .i64 0, .int .i64 13, .string { data := #[97, 98, 99] }], .agg #[.int .i64 0, .int .i64 16, .string { data := #[97] }], .agg #[.int .i64 0, .int .i64 5, .string { data := #[97, 107, 110] }], .agg #[.int .i64 0, .int .i64 3, .string { data := #[97, 98, 107, 110] }], .agg #[.int .i64 0, .int .i64 1, .string { data := #[107, 110] }], .agg #[.int .i64 0, .int .i64 1, .string { data := #[97, 107, 110] }], .agg #[.int .i64 1, .int .i64 7, .string { data := #[97, 107, 110] }], .agg #[.int .i64 1, .int .i64 7, .string { data := #[103, 107, 110] }], .agg #[.int .i64 0, .int .i64 1, .string { data := #[107, 110] }], .agg #[.int .i64 0, .int .i64 1, .string { data := #[97, 110] }], .agg #[.int .i64 0, .int .i64 1, .string { data := #[] }], undef, undef, undef, undef, undef, undef, undef, undef, undef, undef, undef, undef, undef, undef], []⟩ rfl (by kernel_rfl) ?_; simp only [List.drop_succ_cons, List.drop_zero])
    | (refine Gu.wpList_buildSlice_as rfl 205 18 _ rfl (.slice (some ⟨(w.alloc (.cells #[.int .i64 0, .int .i64 0, .string { data := #[] }] 165)).heap.size, 0, none⟩) 18 18) ((w.alloc (.cells #[.int .i64 0, .int .i64 0, .string { data := #[] }] 165)).alloc (.cells neC 165)) (by kernel_rfl) ?_; rw [al_size]))
  go_wp2
  exact bodyPost_ret (v := .tuple #[nnV (nnT k), .bool true]) (by simp [results, Try.results102, go_sem]) rfl ⟨rfl, by (repeat first | with_reducible exact Below.refl _ _ | with_reducible exact hB | with_reducible refine Below.drew ?_ | with_reducible refine Below.alloc ?_ (by first | (simp; done) | (simp; omega) | omega) _ | with_reducible refine Below.setCell ?_ (by first | (simp; done) | (simp; omega) | omega) _)⟩
set_option maxHeartbeats 1000000 in
theorem needs_no (k : Int) (w : World) (h : ¬ (1 ≤ k ∧ k ≤ 17)) : Calls Try.prog 102 #[.int .i64 k] w fun e w' => e = .returned (.tuple #[.agg #[.int .i64 0, .int .i64 0, .string { data := #[] }], .bool false]) ∧ Below w.heap.size w w' := by
  by_cases h1 : k < 1
  · have d0 : decide (k < 1) = true := decide_eq_true h1
    clear h
    go_enter Try.func102, Try.ntmps102
    go_upto_region 2 with (first
      | (refine Gu.wpList_pureAt 5 18 _ _ _ ⟨#[.int .i64 k, undef, .pointer (some ⟨w.heap.size, 0, none⟩), .bool false, undef, .agg #[.int .i64 0, .int .i64 0, .string { data := #[] }], .agg #[.int .i64 0, .int .i64 1, .string { data := #[107] }], .agg #[.int .i64 0, .int .i64 12, .string { data := #[] }], .agg #[.int .i64 0, .int .i64 12, .string { data := #[97] }], .agg #[.int .i64 0, .int .i64 16, .string { data := #[97, 98] }], .agg #[.int .i64 0, .int .i64 7, .string { data := #[97] }], .agg #[.int .i64 0, .int .i64 1, .string { data := #[97, 98, 99] }], .agg #[.int .i64 0, .int .i64 13, .string { data := #[97, 98, 99] }], .agg #[.int .i64 0, .int .i64 16, .string { data := #[97] }], .agg #[.int .i64 0, .int .i64 5, .string { data := #[97, 107, 110] }], .agg #[.int .i64 0, .int .i64 3, .string { data := #[97, 98, 107, 110] }], .agg #[.int .i64 0, .int .i64 1, .string { data := #[107, 110] }], .agg #[.int .i64 0, .int .i64 1, .string { data := #[97, 107, 110] }], .agg #[.int .i64 1, .int .i64 7, .string { data := #[97, 107, 110] }], .agg #[.int .i64 1, .int .i64 7, .string { data := #[103, 107, 110] }], .agg #[.int .i64 0, .int .i64 1, .string { data := #[107, 110] }], .agg #[.int .i64 0, .int .i64 1, .string { data := #[97, 110] }], .agg #[.int .i64 0, .int .i64 1, .string { data := #[] }], undef, undef, undef, undef, undef, undef, undef, undef, undef, undef, undef, undef, undef, undef], []⟩ rfl (by kernel_rfl) ?_; simp only [List.drop_succ_cons, List.drop_zero])
      | (refine Gu.wpList_buildSlice_as rfl 205 18 _ rfl (.slice (some ⟨(w.alloc (.cells #[.int .i64 0, .int .i64 0, .string { data := #[] }] 165)).heap.size, 0, none⟩) 18 18) ((w.alloc (.cells #[.int .i64 0, .int .i64 0, .string { data := #[] }] 165)).alloc (.cells neC 165)) (by kernel_rfl) ?_; rw [al_size]))
    go_wp2
    exact bodyPost_ret (v := .tuple #[.agg #[.int .i64 0, .int .i64 0, .string { data := #[] }], .bool false]) (by simp [results, Try.results102, go_sem]) rfl ⟨rfl, by (repeat first | with_reducible exact Below.refl _ _ | with_reducible exact hB | with_reducible refine Below.drew ?_ | with_reducible refine Below.alloc ?_ (by first | (simp; done) | (simp; omega) | omega) _ | with_reducible refine Below.setCell ?_ (by first | (simp; done) | (simp; omega) | omega) _)⟩
  · have d0 : decide (k < 1) = false := decide_eq_false h1
    have d1 : decide (18 ≤ k) = true := decide_eq_true (by omega)
    clear h
    go_enter Try.func102, Try.ntmps102
    go_upto_region 2 with (first
      | (refine Gu.wpList_pureAt 5 18 _ _ _ ⟨#[.int .i64 k, undef, .pointer (some ⟨w.heap.size, 0, none⟩), .bool false, undef, .agg #[.int .i64 0, .int .i64 0, .string { data := #[] }], .agg #[.int .i64 0, .int .i64 1, .string { data := #[107] }], .agg #[.int .i64 0, .int .i64 12, .string { data := #[] }], .agg #[.int .i64 0, .int .i64 12, .string { data := #[97] }], .agg #[.int .i64 0, .int .i64 16, .string { data := #[97, 98] }], .agg #[.int .i64 0, .int .i64 7, .string { data := #[97] }], .agg #[.int .i64 0, .int .i64 1, .string { data := #[97, 98, 99] }], .agg #[.int .i64 0, .int .i64 13, .string { data := #[97, 98, 99] }], .agg #[.int .i64 0, .int .i64 16, .string { data := #[97] }], .agg #[.int .i64 0, .int .i64 5, .string { data := #[97, 107, 110] }], .agg #[.int .i64 0, .int .i64 3, .string { data := #[97, 98, 107, 110] }], .agg #[.int .i64 0, .int .i64 1, .string { data := #[107, 110] }], .agg #[.int .i64 0, .int .i64 1, .string { data := #[97, 107, 110] }], .agg #[.int .i64 1, .int .i64 7, .string { data := #[97, 107, 110] }], .agg #[.int .i64 1, .int .i64 7, .string { data := #[103, 107, 110] }], .agg #[.int .i64 0, .int .i64 1, .string { data := #[107, 110] }], .agg #[.int .i64 0, .int .i64 1, .string { data := #[97, 110] }], .agg #[.int .i64 0, .int .i64 1, .string { data := #[] }], undef, undef, undef, undef, undef, undef, undef, undef, undef, undef, undef, undef, undef, undef], []⟩ rfl (by kernel_rfl) ?_; simp only [List.drop_succ_cons, List.drop_zero])
      | (refine Gu.wpList_buildSlice_as rfl 205 18 _ rfl (.slice (some ⟨(w.alloc (.cells #[.int .i64 0, .int .i64 0, .string { data := #[] }] 165)).heap.size, 0, none⟩) 18 18) ((w.alloc (.cells #[.int .i64 0, .int .i64 0, .string { data := #[] }] 165)).alloc (.cells neC 165)) (by kernel_rfl) ?_; rw [al_size]))
    go_wp2
    exact bodyPost_ret (v := .tuple #[.agg #[.int .i64 0, .int .i64 0, .string { data := #[] }], .bool false]) (by simp [results, Try.results102, go_sem]) rfl ⟨rfl, by (repeat first | with_reducible exact Below.refl _ _ | with_reducible exact hB | with_reducible refine Below.drew ?_ | with_reducible refine Below.alloc ?_ (by first | (simp; done) | (simp; omega) | omega) _ | with_reducible refine Below.setCell ?_ (by first | (simp; done) | (simp; omega) | omega) _)⟩
end Go.Proofs.Ytedkcaflopmefaa
