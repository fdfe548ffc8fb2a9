import Derived.Test.YtcdphcbjmpgjmaaProg
import Derived.WalkKit
import Derived.WalkSpells
import Derived.WalkLawsBesides
import Derived.Deep.QuietTactic
import Derived.BigQuiet
import Derived.BigRegion
import Derived.KernelRfl
import Derived.LoopN
import Derived.Laws.BitsAllLaws
namespace Go.Proofs.Ytcdphcbjmpgjmaa.Fl
open Go.RowKit
set_option maxRecDepth 100000
set_option linter.unusedVariables false

theorem ret_int {k : IntKind} {a b : Int} (h : a = b) : Ending.returned (.int k a) = .returned (.int k b) := by rw [h]

/-! ## The meaning's small functions -/
def isF (b : Bool) (f : Int) : Int := if b then f else 0
theorem is_any (b : Bool) (f : Int) (w : World) : Calls Try.prog 72 #[.bool b, .int .u32 f] w fun e w' => e = .returned (.int .u32 (isF b f)) ∧ w = w' := by
  cases b
  · go_enter Try.func72, Try.ntmps72; go_wp2; go_ret; exact ⟨rfl, rfl⟩
  · go_enter Try.func72, Try.ntmps72; go_wp2; go_ret; exact ⟨rfl, rfl⟩

theorem word_any (x : Int) (w : World) (h0 : -1099511627776 ≤ x) (h1 : x ≤ 1099511627776) : Calls Try.prog 65 #[.int .i64 x] w fun e w' => e = .returned (.int .u32 (x % 4294967296)) ∧ w = w' := by
  obtain ⟨m, hm⟩ : ∃ m, x.tmod 4294967296 = m := ⟨_, rfl⟩
  have hm1 : -4294967296 < m ∧ m < 4294967296 ∧ (m + 4294967296) % 4294967296 = x % 4294967296 := by
    rw [← hm]
    by_cases hx : 0 ≤ x
    · rw [Int.tmod_eq_emod_of_nonneg hx]; omega
    · have hn : x.tmod 4294967296 = -((-x) % 4294967296) := by
        have := Int.neg_tmod (a := -x) (b := 4294967296)
        rw [Int.neg_neg] at this
        rw [this, Int.tmod_eq_emod_of_nonneg (by omega)]
      rw [hn]; omega
  have hr : (m + 4294967296).tmod 4294967296 = (m + 4294967296) % 4294967296 := Int.tmod_eq_emod_of_nonneg (by omega)
  have HE : Hid ((m + 4294967296) % 4294967296 = x % 4294967296) := hm1.2.2
  obtain ⟨hm2, hm3, -⟩ := hm1
  have hs : 0 ≤ m + 4294967296 := by omega
  go_enter Try.func65, Try.ntmps65
  go_wp2
  go_ret
  exact ⟨ret_int (by have := HE.out; omega), rfl⟩

def sgn (x : Int) : Int := if 2147483648 ≤ x then x - 4294967296 else x
theorem sgn_bd (x : Int) (h0 : 0 ≤ x) (h1 : x < 4294967296) : -2147483648 ≤ sgn x ∧ sgn x < 2147483648 := by unfold sgn; split <;> omega
theorem signed_any (x : Int) (w : World) (h0 : 0 ≤ x) (h1 : x < 4294967296) : Calls Try.prog 69 #[.int .u32 x] w fun e w' => e = .returned (.int .i64 (sgn x)) ∧ w = w' := by
  by_cases h : 2147483648 ≤ x
  · rw [sgn, if_pos h]
    go_enter Try.func69, Try.ntmps69; go_wp2; go_ret; exact ⟨rfl, rfl⟩
  · rw [sgn, if_neg h]
    go_enter Try.func69, Try.ntmps69; go_wp2; go_ret; exact ⟨rfl, rfl⟩

def pastB (x : Int) : Bool := decide (2147483648 ≤ x ∨ x < -2147483648)
theorem past_any (x : Int) (w : World) : Calls Try.prog 73 #[.int .i64 x] w fun e w' => e = .returned (.bool (pastB x)) ∧ w = w' := by
  by_cases h : 2147483648 ≤ x
  · have e : pastB x = true := decide_eq_true (.inl h)
    have d : decide (2147483648 ≤ x) = true := decide_eq_true h
    rw [e]
    go_enter Try.func73, Try.ntmps73; go_wp2; go_ret; exact ⟨rfl, rfl⟩
  · have d : decide (2147483648 ≤ x) = false := decide_eq_false h
    by_cases h2 : x < -2147483648
    · have e : pastB x = true := decide_eq_true (.inr h2)
      have d2 : decide (x < -2147483648) = true := decide_eq_true h2
      rw [e]
      go_enter Try.func73, Try.ntmps73; go_wp2; go_ret; exact ⟨rfl, rfl⟩
    · have e : pastB x = false := decide_eq_false (by omega)
      have d2 : decide (x < -2147483648) = false := decide_eq_false h2
      rw [e]
      go_enter Try.func73, Try.ntmps73; go_wp2; go_ret; exact ⟨rfl, rfl⟩

def valF (x : Int) : Int := isF (x == 0) 1 + isF (decide (2147483648 ≤ x)) 2
theorem isF_bd (b : Bool) (f : Int) (h : 0 ≤ f) : 0 ≤ isF b f ∧ isF b f ≤ f := by unfold isF; split <;> omega
theorem valF_bd (x : Int) : 0 ≤ valF x ∧ valF x ≤ 3 := by
  have h1 := isF_bd (x == 0) 1 (by omega)
  have h2 := isF_bd (decide (2147483648 ≤ x)) 2 (by omega)
  unfold valF; omega
theorem value_any (x : Int) (w : World) (h0 : 0 ≤ x) (h1 : x < 4294967296) : Calls Try.prog 71 #[.int .u32 x] w fun e w' => e = .returned (.int .u32 (valF x)) ∧ w = w' := by
  have b1 := isF_bd (x == 0) 1 (by omega)
  have b2 := isF_bd (decide (2147483648 ≤ x)) 2 (by omega)
  obtain ⟨p, hp⟩ : ∃ p, isF (x == 0) 1 = p := ⟨_, rfl⟩
  obtain ⟨q, hq⟩ : ∃ q, isF (decide (2147483648 ≤ x)) 2 = q := ⟨_, rfl⟩
  rw [hp] at b1
  rw [hq] at b2
  have HE : Hid (isF (x == 0) 1 = p ∧ isF (decide (2147483648 ≤ x)) 2 = q ∧ valF x = p + q) := ⟨hp, hq, by unfold valF; rw [hp, hq]⟩
  clear hp hq
  go_enter Try.func71, Try.ntmps71
  go_wp2_with (go_at_call 72; refine (is_any _ _ _).mono ?_; rintro e w' ⟨rfl, rfl⟩)
  go_ret
  exact ⟨ret_int (by rw [HE.out.1, HE.out.2.1, HE.out.2.2]; omega), rfl⟩

/-- Halved n times, rounded down. -/
theorem half_step (x : Int) : (if x < 0 then (x - 1).tdiv 2 else x.tdiv 2) = x / 2 := by
  split
  · have : (x - 1).tdiv 2 = -((1 - x) / 2) := by
      have h := Int.neg_tdiv (a := 1 - x) (b := 2)
      rw [Int.neg_sub] at h
      rw [h, Int.tdiv_eq_ediv_of_nonneg (by omega)]
    rw [this]; omega
  · rw [Int.tdiv_eq_ediv_of_nonneg (by omega)]
theorem half_any (x : Int) (n : Nat) (w : World) (h0 : -4294967296 ≤ x) (h1 : x ≤ 4294967296) (hn : n ≤ 32) : Calls Try.prog 68 #[.int .i64 x, .int .u32 n] w fun e w' => e = .returned (.int .i64 (x / 2 ^ n)) ∧ w = w' := by
  obtain ⟨R, hR⟩ : ∃ R, x / 2 ^ n = R := ⟨_, rfl⟩
  rw [hR]
  have HR : Hid (x / 2 ^ n = R) := hR
  have HB : Hid (-4294967296 ≤ x ∧ x ≤ 4294967296) := ⟨h0, h1⟩
  clear hR h0 h1
  go_enter Try.func68, Try.ntmps68
  go_wp2
  go_loop [0, 1] (fun xx nn => ∃ (y : Int) (m : Nat), xx = .int .i64 y ∧ nn = .int .u32 m ∧ (-4294967296 ≤ y ∧ y ≤ 4294967296) ∧ m ≤ 32 ∧ y / 2 ^ m = R) (fun _ nn => (intOf nn).toNat)
  case atStart => exact ⟨x, n, rfl, rfl, HB.out, hn, HR.out⟩
  case round =>
    obtain ⟨y, m, rfl, rfl, hy, hm, hq⟩ := hrel
    have HQ : Hid (y / 2 ^ m = R) := hq
    clear hq HR HB
    obtain ⟨hy0, hy1⟩ := hy
    by_cases hm0 : 0 < m
    · have hmi : (0 : Int) < m := by omega
      have hmi2 : (m : Int) ≤ 32 := by omega
      have HN : Hid ((y / 2) / 2 ^ (m - 1) = R) := show _ = _ by
        rw [← HQ.out, Int.ediv_ediv_of_nonneg (by omega)]
        congr 1
        rw [show m = (m - 1) + 1 by omega, Int.pow_succ]
        simp [Int.mul_comm]
      have hst := half_step y
      by_cases hneg : y < 0
      · rw [if_pos hneg] at hst
        go_wp2
        go_round
        case rel => exact ⟨y / 2, m - 1, by go_num, by go_num, by omega, by omega, HN.out⟩
        case measure => simp [intOf]; omega
      · rw [if_neg hneg] at hst
        have hy00 : 0 ≤ y := by omega
        go_wp2
        go_round
        case rel => exact ⟨y / 2, m - 1, by go_num, by go_num, by omega, by omega, HN.out⟩
        case measure => simp [intOf]; omega
    · have hmz : m = 0 := by omega
      subst hmz
      go_wp2
      go_ret
      exact ⟨ret_int (by rw [← HQ.out]; simp), rfl⟩

theorem double_any (x n : Nat) (w : World) (h1 : x < 4294967296) (hn : n ≤ 31) : Calls Try.prog 67 #[.int .u32 x, .int .u32 n] w fun e w' => e = .returned (.int .u64 ((x * 2 ^ n : Nat) : Int)) ∧ w = w' := by
  obtain ⟨R, hR⟩ : ∃ R, x * 2 ^ n = R := ⟨_, rfl⟩
  have hRb : R < 18446744073709551616 := by
    rw [← hR]
    have : 2 ^ n ≤ 2 ^ 31 := Nat.pow_le_pow_right (by decide) hn
    calc x * 2 ^ n ≤ x * 2 ^ 31 := Nat.mul_le_mul_left _ this
      _ < 18446744073709551616 := by omega
  rw [hR]
  have HR : Hid (x * 2 ^ n = R ∧ R < 18446744073709551616) := ⟨hR, hRb⟩
  have hx0 : (0 : Int) ≤ x := by omega
  have hx1 : (x : Int) < 4294967296 := by omega
  clear hR hRb
  go_enter Try.func67, Try.ntmps67
  go_wp2
  go_loop [1, 5] (fun nn yy => ∃ (y m : Nat), yy = .int .u64 y ∧ nn = .int .u32 m ∧ m ≤ 31 ∧ y * 2 ^ m = R) (fun nn _ => (intOf nn).toNat)
  case atStart => exact ⟨x, n, rfl, rfl, hn, HR.out.1⟩
  case round =>
    obtain ⟨y, m, rfl, rfl, hm, hq⟩ := hrel
    have HQ : Hid (y * 2 ^ m = R) := hq
    clear hq
    by_cases hm0 : 0 < m
    · have hmi : (0 : Int) < m := by omega
      have hmi2 : (m : Int) ≤ 32 := by omega
      have HN : Hid ((2 * y) * 2 ^ (m - 1) = R) := show _ = _ by
        have hp : 2 ^ m = 2 * 2 ^ (m - 1) := by
          have : m = (m - 1) + 1 := by omega
          rw [this, Nat.pow_succ, Nat.add_sub_cancel]; omega
        rw [← HQ.out, hp, ← Nat.mul_assoc, Nat.mul_comm 2 y]
      have hy2 : 2 * y < 18446744073709551616 := by
        have h1 := HN.out
        have h2 := HR.out.2
        have h3 : 2 * y ≤ (2 * y) * 2 ^ (m - 1) := Nat.le_mul_of_pos_right _ (Nat.pow_pos (by decide))
        omega
      have hyi : 2 * (y : Int) < 18446744073709551616 := by omega
      have hy0 : (0 : Int) ≤ y := by omega
      go_wp2
      go_round
      case rel => exact ⟨2 * y, m - 1, by go_num, by go_num, by omega, HN.out⟩
      case measure => simp [intOf]; omega
    · have hmz : m = 0 := by omega
      subst hmz
      go_wp2
      go_ret
      exact ⟨ret_int (by rw [← HQ.out]; simp), rfl⟩

/-- Turned to the left by one; by n. -/
def tur1 (x : Int) : Int := 2 * x % 4294967296 + x / 2147483648
def turN : Nat → Int → Int
  | 0, x => x
  | n + 1, x => turN n (tur1 x)
theorem tur1_bd (x : Int) (h0 : 0 ≤ x) (h1 : x < 4294967296) : 0 ≤ tur1 x ∧ tur1 x < 4294967296 := by unfold tur1; omega
theorem turned_any (x : Int) (n : Nat) (w : World) (h0 : 0 ≤ x) (h1 : x < 4294967296) (hn : n ≤ 32) : Calls Try.prog 70 #[.int .u32 x, .int .u32 n] w fun e w' => e = .returned (.int .u32 (turN n x)) ∧ w = w' := by
  obtain ⟨R, hR⟩ : ∃ R, turN n x = R := ⟨_, rfl⟩
  rw [hR]
  have HR : Hid (turN n x = R) := hR
  have HB : Hid (0 ≤ x ∧ x < 4294967296) := ⟨h0, h1⟩
  clear hR h0 h1
  go_enter Try.func70, Try.ntmps70
  go_wp2
  go_loop [0, 1] (fun xx nn => ∃ (y : Int) (m : Nat), xx = .int .u32 y ∧ nn = .int .u32 m ∧ (0 ≤ y ∧ y < 4294967296) ∧ m ≤ 32 ∧ turN m y = R) (fun _ nn => (intOf nn).toNat)
  case atStart => exact ⟨x, n, rfl, rfl, HB.out, hn, HR.out⟩
  case round =>
    obtain ⟨y, m, rfl, rfl, hy, hm, hq⟩ := hrel
    have HQ : Hid (turN m y = R) := hq
    clear hq HR HB
    obtain ⟨hy0, hy1⟩ := hy
    cases m with
    | zero =>
      go_wp2
      go_ret
      exact ⟨ret_int HQ.out, rfl⟩
    | succ m =>
      have hb := tur1_bd y hy0 hy1
      obtain ⟨t, ht⟩ : ∃ t, tur1 y = t := ⟨_, rfl⟩
      have HT : Hid (2 * y % 4294967296 + y / 2147483648 = t ∧ turN m t = R) := ⟨ht, by rw [← ht]; exact HQ.out⟩
      rw [ht] at hb
      obtain ⟨hb0, hb1⟩ := hb
      have hu : 2 * y % 4294967296 + y / 2147483648 = t := HT.out.1
      clear ht HQ
      go_wp2_with (go_at_call 65; refine (word_any _ _ (by omega) (by omega)).mono ?_; rintro e w' ⟨rfl, rfl⟩)
      go_round
      case rel => exact ⟨t, m, by go_num, by go_num, by omega, by omega, HT.out.2⟩
      case measure => simp [intOf]

/-! bit by bit -/
def bitN (o : Int) (a b : Nat) : Nat := if o = 5 then a ||| b else if o = 6 then a ^^^ b else a &&& b
theorem tb (n k : Nat) : n / 2 ^ k % 2 = (n.testBit k).toNat := by
  rw [Nat.testBit_eq_decide_div_mod_eq]
  have h := Nat.mod_two_eq_zero_or_one (n / 2 ^ k)
  rcases h with h | h <;> rw [h] <;> rfl
theorem bit_and (a b k : Nat) : (a &&& b) / 2 ^ k % 2 = (a / 2 ^ k % 2) * (b / 2 ^ k % 2) := by
  rw [tb, tb, tb, Nat.testBit_and]
  cases a.testBit k <;> cases b.testBit k <;> rfl
theorem bit_or (a b k : Nat) : (a ||| b) / 2 ^ k % 2 = (a / 2 ^ k % 2) + (b / 2 ^ k % 2) - (a / 2 ^ k % 2) * (b / 2 ^ k % 2) := by
  rw [tb, tb, tb, Nat.testBit_or]
  cases a.testBit k <;> cases b.testBit k <;> rfl
theorem bit_xor (a b k : Nat) : (a ^^^ b) / 2 ^ k % 2 = ((a / 2 ^ k % 2) + (b / 2 ^ k % 2)) % 2 := by
  rw [tb, tb, tb, Nat.testBit_xor]
  cases a.testBit k <;> cases b.testBit k <;> rfl
theorem bit_low (n k : Nat) : n / 2 ^ k = 2 * (n / 2 ^ (k + 1)) + n / 2 ^ k % 2 := by
  rw [Nat.pow_succ, ← Nat.div_div_eq_div_mul]; omega
theorem bitN_lt (o : Int) (a b : Nat) (ha : a < 4294967296) (hb : b < 4294967296) : bitN o a b < 4294967296 := by
  unfold bitN
  split
  · exact Nat.or_lt_two_pow (n := 32) ha hb
  · split
    · exact Nat.xor_lt_two_pow (n := 32) ha hb
    · exact Nat.and_lt_two_pow (n := 32) _ hb
end Go.Proofs.Ytcdphcbjmpgjmaa.Fl
