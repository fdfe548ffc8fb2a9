import Derived.Test.YtcdphcbjmpgjmaaIA
import Derived.Deep.RegionHeld3
import Derived.Below
namespace Go.Proofs.Ytcdphcbjmpgjmaa
open Go.RowKit
set_option maxRecDepth 100000
set_option linter.unusedVariables false
set_option linter.unusedSimpArgs false

/-! ## Moved bits -/
theorem flagsOf_i (v c p : Int) (w : World) (hv0 : 0 ≤ v) (hv : v < 4294967296) (hc0 : 0 ≤ c) (hc : c ≤ 1) (hp0 : 0 ≤ p) (hp : p ≤ 1) :
    Calls Try.prog 106 #[.int .u32 v, .int .u32 c, .int .u32 p] w fun e w' => e = .returned (.int .u32 (Fl.valF v + c * 4 + p * 8)) ∧ w = w' := by
  have := flagsOf_any v.toNat c.toNat p.toNat w (by omega) (by omega) (by omega)
  rw [Int.toNat_of_nonneg hv0, Int.toNat_of_nonneg hc0, Int.toNat_of_nonneg hp0] at this
  exact this
set_option maxHeartbeats 1000000 in
theorem moved_none (k : Int) (a old : Nat) (w : World) :
    Calls Try.prog 94 #[.int .u8 k, .int .u32 a, .int .i64 0, .int .u32 old] w fun e w' => e = .returned (.tuple #[.int .u32 a, .int .u32 old]) ∧ w = w' := by
  go_enter Try.func94, Try.ntmps94
  go_wp2
  go_ret2
  exact ⟨rfl, rfl⟩
theorem rot32_me (a n t : Nat) (w : World) (ht : Fl.turN n a = t) (ha : a < 4294967296) (hn : n < 32) :
    Calls Try.prog 105 #[.int .u32 a, .int .i64 n] w fun e w' => e = .returned (.int .u32 t) ∧ w = w' := by
  have := rot32 a n w ha hn
  rw [ht] at this; exact this

theorem isF_mod (x : Int) : x % 2 * 4 = Fl.isF (x % 2 == 1) 4 := by
  unfold Fl.isF
  by_cases h : x % 2 = 1
  · simp [h]
  · have : x % 2 = 0 := by omega
    simp [this]
theorem pow_split (n : Nat) (hn : n ≤ 32) : 2 ^ n * 2 ^ (32 - n) = 4294967296 := by rw [← Nat.pow_add, show n + (32 - n) = 32 by omega]
/-- What goes out on the left. -/
theorem tur_low (a n : Nat) (ha : a < 4294967296) (h0 : 0 < n) (hn : n < 32) : Fl.turN n a % 2 = ((a * 2 ^ n / 4294967296 % 2 : Nat) : Int) := by
  rw [turN_eq n a (by omega) ha]
  have e1 : a * 2 ^ n / 4294967296 = a / 2 ^ (32 - n) := by
    have := pow_split n (by omega)
    rw [← this, Nat.mul_comm (2 ^ n) (2 ^ (32 - n)), Nat.mul_div_mul_right _ _ (Nat.two_pow_pos n)]
  have e2 : a * 2 ^ n % 4294967296 % 2 = 0 := by
    have : a * 2 ^ n = a * 2 ^ (n - 1) * 2 := by rw [Nat.mul_assoc, ← Nat.pow_succ, show (n - 1).succ = n by omega]
    omega
  rw [e1]
  generalize a / 2 ^ (32 - n) = q at *
  generalize a * 2 ^ n % 4294967296 = r at *
  omega
theorem wrap_u32n (x : Nat) : IntKind.u32.wrap (x : Int) = ((x % 4294967296 : Nat) : Int) := by
  rw [Go.IntKind.wrap_u32']; omega
theorem shl_cast (a n : Nat) : (a : Int) * 2 ^ n = ((a * 2 ^ n : Nat) : Int) := by rw [Int.natCast_mul, Int.natCast_pow]; rfl
theorem shr_cast (a n : Nat) : (a : Int) / 2 ^ n = ((a / 2 ^ n : Nat) : Int) := by rw [Int.natCast_ediv, Int.natCast_pow]; rfl
theorem and1 (x : Nat) (hx : x < 4294967296) : bits .and .u32 (x : Int) 1 = (x : Int) % 2 := by
  rw [show (1 : Int) = ((1 : Nat) : Int) from rfl, Go.u32_and_nat _ _ hx (by decide), Go.nat_mask1]; omega
theorem below_drew2 (w : World) : Below w.heap.size w w.drew.drew := (Below.refl _ _).drew.drew
theorem below_drew (w : World) : Below w.heap.size w w.drew := (Below.refl _ _).drew
set_option maxHeartbeats 1000000 in
theorem moved5 (a n old t : Nat) (w : World) (ht : Fl.turN n a = t) (ha : a < 4294967296) (h0 : 0 < n) (hn : n < 32) :
    Calls Try.prog 94 #[.int .u8 5, .int .u32 a, .int .i64 n, .int .u32 old] w fun e w' => e = .returned (.tuple #[.int .u32 ((a * 2 ^ n % 4294967296 : Nat) : Int), .int .u32 (Fl.shlF a n)]) ∧ Below w.heap.size w w' := by
  have htl : t < 4294967296 := by have := Fl.turN_bd n a (by omega) (by omega); omega
  have hz : ((n : Int) == 0) = false := by simp; omega
  have h1 : (0 : Int) ≤ (n : Int) - 1 := by omega
  have h2 : (0 : Int) ≤ n := by omega
  have ht1 : bits .and .u32 (t : Int) 1 = (t : Int) % 2 := and1 t htl
  have hs : IntKind.u32.wrap ((a : Int) * 2 ^ n) = ((a * 2 ^ n % 4294967296 : Nat) : Int) := by rw [shl_cast, wrap_u32n]
  have hs0 : 0 ≤ IntKind.u32.wrap ((a : Int) * 2 ^ n) := by rw [hs]; omega
  have hs1 : IntKind.u32.wrap ((a : Int) * 2 ^ n) < 4294967296 := by rw [hs]; omega
  have HS : Hid _ := hs
  have HS0 : Hid _ := hs0
  have HS1 : Hid _ := hs1
  clear hs hs0 hs1
  have he : Fl.valF (IntKind.u32.wrap ((a : Int) * 2 ^ n)) + (t : Int) % 2 * 4 = Fl.shlF a n := by
    rw [HS.out, ← ht, tur_low a n ha h0 hn]
    unfold Fl.shlF
    have := isF_mod ((a * 2 ^ n / 4294967296 : Nat) : Int)
    have e : ((a * 2 ^ n / 4294967296 % 2 : Nat) : Int) = ((a * 2 ^ n / 4294967296 : Nat) : Int) % 2 := by omega
    rw [e, this]
    have e2 : (((a * 2 ^ n / 4294967296 : Nat) : Int) % 2 == 1) = (a * 2 ^ n / 4294967296 % 2 == 1) := by
      generalize a * 2 ^ n / 4294967296 = q
      rw [Bool.eq_iff_iff]; simp; omega
    rw [e2]
  have HE : Hid _ := he
  have HT : Hid _ := ht
  clear ht he
  go_enter Try.func94, Try.ntmps94
  go_wp2_with (first
    | (go_at_call 105; refine (rot32_me a n t _ HT.out ha hn).mono ?_; rintro e w1 ⟨rfl, rfl⟩))
  go_region
  go_wp2
  go_region_with (go_at_call 106; refine (flagsOf_i _ _ 0 _ HS0.out HS1.out (by omega) (by omega) (by omega) (by omega)).mono ?_; rintro e w1 ⟨rfl, rfl⟩)
  all_goals go_wp2
  all_goals go_ret2
  all_goals exact ⟨ret2 HS.out HE.out, below_drew2 w⟩
set_option maxHeartbeats 1000000 in
theorem moved6 (a n old t : Nat) (w : World) (ht : Fl.turN n a = t) (ha : a < 4294967296) (h0 : 0 < n) (hn : n < 32) :
    Calls Try.prog 94 #[.int .u8 6, .int .u32 a, .int .i64 n, .int .u32 old] w fun e w' => e = .returned (.tuple #[.int .u32 ((a : Int) / 2 ^ n), .int .u32 (Fl.shrF a n)]) ∧ Below w.heap.size w w' := by
  have htl : t < 4294967296 := by have := Fl.turN_bd n a (by omega) (by omega); omega
  have hz : ((n : Int) == 0) = false := by simp; omega
  have h1 : (0 : Int) ≤ (n : Int) - 1 := by omega
  have h2 : (0 : Int) ≤ n := by omega
  have ht1 : bits .and .u32 (t : Int) 1 = (t : Int) % 2 := and1 t htl
  obtain ⟨q, hq⟩ : ∃ q : Nat, (a : Int) / 2 ^ (n - 1) = q := ⟨_, shr_cast a (n - 1)⟩
  have hql : q < 4294967296 := by have := (Fl.ediv_bd a (n - 1) (by omega)).2; rw [hq] at this; omega
  have hq1 : bits .and .u32 (q : Int) 1 = (q : Int) % 2 := and1 q hql
  have hs0 : 0 ≤ (a : Int) / 2 ^ n := (Fl.ediv_bd a n (by omega)).1
  have hs1 : (a : Int) / 2 ^ n < 4294967296 := Int.lt_of_le_of_lt (Fl.ediv_bd a n (by omega)).2 (by omega)
  have HS0 : Hid _ := hs0
  have HS1 : Hid _ := hs1
  clear hs0 hs1
  have he : Fl.valF ((a : Int) / 2 ^ n) + (q : Int) % 2 * 4 = Fl.shrF a n := by
    unfold Fl.shrF
    rw [hq, isF_mod]
  have HE : Hid _ := he
  have HT : Hid _ := ht
  clear ht he
  go_enter Try.func94, Try.ntmps94
  go_wp2_with (first
    | (go_at_call 105; refine (rot32_me a n t _ HT.out ha hn).mono ?_; rintro e w1 ⟨rfl, rfl⟩))
  go_region
  go_wp2
  go_region_with (go_at_call 106; refine (flagsOf_i _ _ 0 _ HS0.out HS1.out (by omega) (by omega) (by omega) (by omega)).mono ?_; rintro e w1 ⟨rfl, rfl⟩)
  all_goals go_wp2
  all_goals go_ret2
  all_goals exact ⟨ret2 rfl HE.out, below_drew2 w⟩
theorem sgn_low (a n : Nat) (hn : n < 32) : Fl.sgn a / 2 ^ n % 4294967296 % 2 = (a : Int) / 2 ^ n % 2 := by
  have e : ∀ x : Int, x % 4294967296 % 2 = x % 2 := fun x => by omega
  rw [e]
  unfold Fl.sgn
  split
  · have hp : (2 : Int) ^ (31 - n) * 2 * 2 ^ n = 4294967296 := by
      rw [← Int.pow_succ, ← Int.pow_add, show (31 - n).succ + n = 32 by omega]; rfl
    have : (a : Int) - 4294967296 = a + (-(2 ^ (31 - n) * 2)) * 2 ^ n := by rw [Int.neg_mul, hp]; rfl
    rw [this, Int.add_mul_ediv_right _ _ (Int.ne_of_gt (Int.pow_pos (by decide)))]
    generalize (2 : Int) ^ (31 - n) = z
    omega
  · rfl
theorem wrap32_sgn (a : Nat) (ha : a < 4294967296) : wrap32 (a : Int) = Fl.sgn a := by
  unfold Fl.sgn
  split
  · rw [show wrap32 (a : Int) = (a : Int) - 4294967296 from by simp [wrap32, IntKind.wrap, IntKind.bits, IntKind.signed]; omega]
  · rw [show wrap32 (a : Int) = (a : Int) from by simp [wrap32, IntKind.wrap, IntKind.bits, IntKind.signed]; omega]
set_option maxHeartbeats 1000000 in
theorem moved7 (a n old t : Nat) (w : World) (ht : Fl.turN n a = t) (ha : a < 4294967296) (h0 : 0 < n) (hn : n < 32) :
    Calls Try.prog 94 #[.int .u8 7, .int .u32 a, .int .i64 n, .int .u32 old] w fun e w' => e = .returned (.tuple #[.int .u32 (Fl.sgn a / 2 ^ n % 4294967296), .int .u32 (Fl.sarF a n)]) ∧ Below w.heap.size w w' := by
  have htl : t < 4294967296 := by have := Fl.turN_bd n a (by omega) (by omega); omega
  have hz : ((n : Int) == 0) = false := by simp; omega
  have h1 : (0 : Int) ≤ (n : Int) - 1 := by omega
  have h2 : (0 : Int) ≤ n := by omega
  have ht1 : bits .and .u32 (t : Int) 1 = (t : Int) % 2 := and1 t htl
  obtain ⟨q, hq⟩ : ∃ q : Nat, (a : Int) / 2 ^ (n - 1) = q := ⟨_, shr_cast a (n - 1)⟩
  have hql : q < 4294967296 := by have := (Fl.ediv_bd a (n - 1) (by omega)).2; rw [hq] at this; omega
  have hq1 : bits .and .u32 (q : Int) 1 = (q : Int) % 2 := and1 q hql
  have hw : wrap32 (a : Int) = Fl.sgn a := wrap32_sgn a ha
  have he : Fl.valF (Fl.sgn a / 2 ^ n % 4294967296) + (q : Int) % 2 * 4 = Fl.sarF a n := by
    unfold Fl.sarF
    rw [sgn_low a (n - 1) (by omega), hq, isF_mod, Int.ediv_ediv_of_nonneg (Int.le_of_lt (Int.pow_pos (by decide))), ← Int.pow_succ, show (n - 1).succ = n by omega]
  have hs0 : 0 ≤ Fl.sgn a / 2 ^ n % 4294967296 := Int.emod_nonneg _ (by decide)
  have hs1 : Fl.sgn a / 2 ^ n % 4294967296 < 4294967296 := Int.emod_lt_of_pos _ (by decide)
  have HS0 : Hid _ := hs0
  have HS1 : Hid _ := hs1
  clear hs0 hs1
  have HE : Hid _ := he
  have HT : Hid _ := ht
  clear ht he
  go_enter Try.func94, Try.ntmps94
  go_wp2_with (first
    | (go_at_call 105; refine (rot32_me a n t _ HT.out ha hn).mono ?_; rintro e w1 ⟨rfl, rfl⟩))
  go_region
  go_wp2_with (go_at_call 106; refine (flagsOf_i _ _ 0 _ HS0.out HS1.out (by omega) (by omega) (by omega) (by omega)).mono ?_; rintro e w1 ⟨rfl, rfl⟩)
  go_ret2
  exact ⟨ret2 rfl HE.out, below_drew w⟩
theorem or_old : ∀ o : Fin 16, ∀ l : Fin 2, bits .or .u32 (bits .andNot .u32 (o.val : Int) 4) ((l.val : Int) * 4) = (o.val : Int) - (((o.val / 4 % 2 : Nat)) : Int) * 4 + (l.val : Int) * 4 := by decide +kernel
set_option maxHeartbeats 1000000 in
theorem moved8 (a n old t : Nat) (w : World) (ht : Fl.turN n a = t) (ha : a < 4294967296) (h0 : 0 < n) (hn : n < 32) (ho : old < 16) :
    Calls Try.prog 94 #[.int .u8 8, .int .u32 a, .int .i64 n, .int .u32 old] w fun e w' => e = .returned (.tuple #[.int .u32 t, .int .u32 (Fl.rolF a n old)]) ∧ Below w.heap.size w w' := by
  have htl : t < 4294967296 := by have := Fl.turN_bd n a (by omega) (by omega); omega
  have hz : ((n : Int) == 0) = false := by simp; omega
  have h1 : (0 : Int) ≤ (n : Int) - 1 := by omega
  have h2 : (0 : Int) ≤ n := by omega
  have ht1 : bits .and .u32 (t : Int) 1 = (t : Int) % 2 := and1 t htl
  have he : bits .or .u32 (bits .andNot .u32 (old : Int) 4) ((t : Int) % 2 * 4) = Fl.rolF a n old := by
    have := or_old ⟨old, ho⟩ ⟨t % 2, by omega⟩
    have e : (((t % 2 : Nat)) : Int) = (t : Int) % 2 := by omega
    simp only [e] at this
    rw [this]
    unfold Fl.rolF
    rw [ht, isF_mod]
    unfold Fl.carF
    rw [Nat.mod_eq_of_lt ho]
  have HE : Hid _ := he
  have HT : Hid _ := ht
  clear ht he
  go_enter Try.func94, Try.ntmps94
  go_wp2_with (first
    | (go_at_call 105; refine (rot32_me a n t _ HT.out ha hn).mono ?_; rintro e w1 ⟨rfl, rfl⟩))
  go_region
  go_wp2
  go_ret2
  exact ⟨ret2 rfl HE.out, below_drew w⟩
end Go.Proofs.Ytcdphcbjmpgjmaa
