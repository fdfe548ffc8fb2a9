import Derived.Test.YtcdphcbjmpgjmaaFD
namespace Go.Proofs.Ytcdphcbjmpgjmaa.Fl
open Go.RowKit
set_option maxRecDepth 100000
set_option linter.unusedVariables false

theorem half_me (x : Int) (n : Nat) (R : Int) (w : World) (hR : x / 2 ^ n = R) (h0 : -4294967296 ≤ x) (h1 : x ≤ 4294967296) (hn : n ≤ 32) : Calls Try.prog 68 #[.int .i64 x, .int .u32 n] w fun e w' => e = .returned (.int .i64 R) ∧ w = w' := by
  subst hR; exact half_any x n w h0 h1 hn
theorem turned_me (x : Int) (n : Nat) (R : Int) (w : World) (hR : turN n x = R) (h0 : 0 ≤ x) (h1 : x < 4294967296) (hn : n ≤ 32) : Calls Try.prog 70 #[.int .u32 x, .int .u32 n] w fun e w' => e = .returned (.int .u32 R) ∧ w = w' := by
  subst hR; exact turned_any x n w h0 h1 hn
theorem ediv_bd (x : Int) (n : Nat) (h0 : 0 ≤ x) : 0 ≤ x / 2 ^ n ∧ x / 2 ^ n ≤ x := ⟨Int.ediv_nonneg h0 (Int.le_of_lt (Int.pow_pos (by decide))), Int.ediv_le_self _ h0⟩
theorem ediv_bd2 (x : Int) (n : Nat) (h0 : -2147483648 ≤ x) (h1 : x < 2147483648) : -2147483648 ≤ x / 2 ^ n ∧ x / 2 ^ n < 2147483648 := by
  have hp : (0 : Int) < 2 ^ n := Int.pow_pos (by decide)
  by_cases hx : 0 ≤ x
  · have := ediv_bd x n hx; omega
  · have h2 : x / 2 ^ n < 0 := Int.ediv_neg_of_neg_of_pos (by omega) hp
    have h3 : x ≤ x / 2 ^ n := by
      have := Int.le_ediv_of_mul_le hp (a := x) (b := x) (by
        have : x * 2 ^ n ≤ x * 1 := Int.mul_le_mul_of_nonpos_left (by omega) (by omega)
        omega)
      exact this
    omega
theorem turN_bd : ∀ (n : Nat) (x : Int), 0 ≤ x → x < 4294967296 → 0 ≤ turN n x ∧ turN n x < 4294967296
  | 0, x, h0, h1 => ⟨h0, h1⟩
  | n + 1, x, h0, h1 => turN_bd n (tur1 x) (tur1_bd x h0 h1).1 (tur1_bd x h0 h1).2

set_option maxHeartbeats 1000000 in
theorem flags7 (a b old : Nat) (w : World) (ha : a < 4294967296) (hb : b < 4294967296) (ho : old < 4294967296) (h0 : 0 < b % 32) : Calls Try.prog 28 #[.int .i64 7, .int .u32 a, .int .u32 b, .int .u32 old] w fun e w' => e = .returned (.int .u32 (shrF a (b % 32))) ∧ w = w' := by
  have ha0 : (0 : Int) ≤ a := by omega
  have ha1 : (a : Int) < 4294967296 := by omega
  have hb0 : (0 : Int) ≤ b := by omega
  have hb1 : (b : Int) < 4294967296 := by omega
  have ho0 : (0 : Int) ≤ old := by omega
  have ho1 : (old : Int) < 4294967296 := by omega
  obtain ⟨s1, s2⟩ := sgn_bd a ha0 ha1
  obtain ⟨s3, s4⟩ := sgn_bd b hb0 hb1
  obtain ⟨n, hn⟩ : ∃ n, b % 32 = n := ⟨_, rfl⟩
  have hnb : 0 < n ∧ n ≤ 31 := by omega
  rw [hn]
  have hni : (b : Int) % 32 = (n : Int) := by omega
  have hn0 : (0 : Int) < n := by omega
  have hn1 : (n : Int) ≤ 31 := by omega
  have hnz : ((n : Int) == 0) = false := by simp; omega
  have hnz' : (n == 0) = false := by simp; omega
  have HN : Hid (0 < n ∧ n ≤ 31) := hnb
  clear hn hnb h0
  obtain ⟨m, hm⟩ : ∃ m, n = m + 1 := ⟨n - 1, by have := HN.out; omega⟩
  have hmi : (n : Int) - 1 = (m : Int) := by omega
  have hm0 : (0 : Int) ≤ m := by omega
  have hm1 : (m : Int) ≤ 31 := by omega
  obtain ⟨R1, hR1⟩ : ∃ R, (a : Int) / 2 ^ n = R := ⟨_, rfl⟩
  obtain ⟨R2, hR2⟩ : ∃ R, (a : Int) / 2 ^ m = R := ⟨_, rfl⟩
  have b1 := ediv_bd a n ha0
  have b2 := ediv_bd a m ha0
  rw [hR1] at b1
  rw [hR2] at b2
  obtain ⟨b10, b11⟩ := b1
  obtain ⟨b20, b21⟩ := b2
  have e : shrF a n = valF R1 + isF (R2 % 2 == 1) 4 := by
    unfold shrF; rw [show n - 1 = m by omega, hR1, hR2]
  rw [e]
  clear e hm
  go_enter Try.func28, Try.ntmps28
  go_wp2_with first
    | (go_at_call 72; refine (is_any _ _ _).mono ?_; rintro e w' ⟨rfl, rfl⟩)
    | (go_at_call 65; refine (word_any _ _ (by omega) (by omega)).mono ?_; rintro e w' ⟨rfl, rfl⟩)
    | (go_at_call 71; refine (value_any _ _ (by omega) (by omega)).mono ?_; rintro e w' ⟨rfl, rfl⟩)
    | (go_at_call 69; refine (signed_any _ _ (by omega) (by omega)).mono ?_; rintro e w' ⟨rfl, rfl⟩)
    | (go_at_call 73; refine (past_any _ _).mono ?_; rintro e w' ⟨rfl, rfl⟩)
    | (go_at_call 68; refine (half_any _ _ _ (by omega) (by omega) (by omega)).mono ?_; rintro e w' ⟨rfl, rfl⟩; simp only [hR1, hR2])
  go_ret
  refine ⟨ret_int ?_, rfl⟩
  have h1 := valF_bd R1
  have h2 := isF_bd (R2 % 2 == 1) 4 (by omega)
  omega

set_option maxHeartbeats 1000000 in
theorem flags8 (a b old : Nat) (w : World) (ha : a < 4294967296) (hb : b < 4294967296) (ho : old < 4294967296) (h0 : 0 < b % 32) : Calls Try.prog 28 #[.int .i64 8, .int .u32 a, .int .u32 b, .int .u32 old] w fun e w' => e = .returned (.int .u32 (sarF a (b % 32))) ∧ w = w' := by
  have ha0 : (0 : Int) ≤ a := by omega
  have ha1 : (a : Int) < 4294967296 := by omega
  have hb0 : (0 : Int) ≤ b := by omega
  have hb1 : (b : Int) < 4294967296 := by omega
  have ho0 : (0 : Int) ≤ old := by omega
  have ho1 : (old : Int) < 4294967296 := by omega
  obtain ⟨s1, s2⟩ := sgn_bd a ha0 ha1
  obtain ⟨s3, s4⟩ := sgn_bd b hb0 hb1
  obtain ⟨n, hn⟩ : ∃ n, b % 32 = n := ⟨_, rfl⟩
  have hnb : 0 < n ∧ n ≤ 31 := by omega
  rw [hn]
  have hni : (b : Int) % 32 = (n : Int) := by omega
  have hn0 : (0 : Int) < n := by omega
  have hn1 : (n : Int) ≤ 31 := by omega
  have hnz : ((n : Int) == 0) = false := by simp; omega
  have hnz' : (n == 0) = false := by simp; omega
  have HN : Hid (0 < n ∧ n ≤ 31) := hnb
  clear hn hnb h0
  obtain ⟨m, hm⟩ : ∃ m, n = m + 1 := ⟨n - 1, by have := HN.out; omega⟩
  have hmi : (n : Int) - 1 = (m : Int) := by omega
  have hm0 : (0 : Int) ≤ m := by omega
  have hm1 : (m : Int) ≤ 31 := by omega
  obtain ⟨R2, hR2⟩ : ∃ R, sgn a / 2 ^ m = R := ⟨_, rfl⟩
  obtain ⟨R1, hR1⟩ : ∃ R, R2 / 2 ^ 1 = R := ⟨_, rfl⟩
  have b2 := ediv_bd2 (sgn a) m s1 s2
  rw [hR2] at b2
  have b1 := ediv_bd2 R2 1 b2.1 b2.2
  rw [hR1] at b1
  obtain ⟨b10, b11⟩ := b1
  obtain ⟨b20, b21⟩ := b2
  have e : sarF a n = valF (R1 % 4294967296) + isF (R2 % 4294967296 % 2 == 1) 4 := by
    unfold sarF; rw [show n - 1 = m by omega, hR2, ← hR1]; rfl
  rw [e]
  clear e hm
  go_enter Try.func28, Try.ntmps28
  go_wp2_with first
    | (go_at_call 72; refine (is_any _ _ _).mono ?_; rintro e w' ⟨rfl, rfl⟩)
    | (go_at_call 65; refine (word_any _ _ (by omega) (by omega)).mono ?_; rintro e w' ⟨rfl, rfl⟩)
    | (go_at_call 71; refine (value_any _ _ (by omega) (by omega)).mono ?_; rintro e w' ⟨rfl, rfl⟩)
    | (go_at_call 69; refine (signed_any _ _ (by omega) (by omega)).mono ?_; rintro e w' ⟨rfl, rfl⟩)
    | (go_at_call 73; refine (past_any _ _).mono ?_; rintro e w' ⟨rfl, rfl⟩)
    | (go_at_call 68; have h5 := HH.out; refine (half_any R2 1 _ (by omega) (by omega) (by omega)).mono ?_; rintro e w' ⟨rfl, rfl⟩; simp only [hR1])
    | (go_at_call 68; refine (half_any (sgn a) m _ (by omega) (by omega) (by omega)).mono ?_; rintro e w' ⟨rfl, rfl⟩; simp only [hR2]; have HH : Hid (R2 = R2) := rfl)
  go_ret
  refine ⟨ret_int ?_, rfl⟩
  have h1 := valF_bd (R1 % 4294967296)
  have hq : R2 % 4294967296 % 2 = R2 % 2 := by omega
  rw [hq]
  have h2 := isF_bd (R2 % 2 == 1) 4 (by omega)
  omega

set_option maxHeartbeats 1000000 in
theorem flags9 (a b old : Nat) (w : World) (ha : a < 4294967296) (hb : b < 4294967296) (ho : old < 4294967296) (h0 : 0 < b % 32) : Calls Try.prog 28 #[.int .i64 9, .int .u32 a, .int .u32 b, .int .u32 old] w fun e w' => e = .returned (.int .u32 (rolF a (b % 32) old)) ∧ w = w' := by
  have ha0 : (0 : Int) ≤ a := by omega
  have ha1 : (a : Int) < 4294967296 := by omega
  have hb0 : (0 : Int) ≤ b := by omega
  have hb1 : (b : Int) < 4294967296 := by omega
  have ho0 : (0 : Int) ≤ old := by omega
  have ho1 : (old : Int) < 4294967296 := by omega
  obtain ⟨s1, s2⟩ := sgn_bd a ha0 ha1
  obtain ⟨s3, s4⟩ := sgn_bd b hb0 hb1
  obtain ⟨n, hn⟩ : ∃ n, b % 32 = n := ⟨_, rfl⟩
  have hnb : 0 < n ∧ n ≤ 31 := by omega
  rw [hn]
  have hni : (b : Int) % 32 = (n : Int) := by omega
  have hn0 : (0 : Int) < n := by omega
  have hn1 : (n : Int) ≤ 31 := by omega
  have hnz : ((n : Int) == 0) = false := by simp; omega
  have hnz' : (n == 0) = false := by simp; omega
  have HN : Hid (0 < n ∧ n ≤ 31) := hnb
  clear hn hnb h0
  obtain ⟨T, hT⟩ : ∃ T, turN n a = T := ⟨_, rfl⟩
  have bT := turN_bd n a ha0 ha1
  rw [hT] at bT
  obtain ⟨bT0, bT1⟩ := bT
  have hc0 := carF_bd old
  obtain ⟨c, hc⟩ : ∃ c, carF old = c := ⟨_, rfl⟩
  have hci : (old : Int) % 16 / 4 % 2 = c := by rw [← hc]; unfold carF; omega
  rw [hc] at hc0
  obtain ⟨hc1, hc2⟩ := hc0
  have e : rolF a n old = (old : Int) % 16 - c * 4 + isF (T % 2 == 1) 4 := by
    unfold rolF; rw [hT, hc]; simp
  rw [e]
  have HT : Hid (turN n (a : Int) = T) := hT
  clear hT hc e
  go_enter Try.func28, Try.ntmps28
  go_wp2_with first
    | (go_at_call 72; refine (is_any _ _ _).mono ?_; rintro e w' ⟨rfl, rfl⟩)
    | (go_at_call 65; refine (word_any _ _ (by omega) (by omega)).mono ?_; rintro e w' ⟨rfl, rfl⟩)
    | (go_at_call 71; refine (value_any _ _ (by omega) (by omega)).mono ?_; rintro e w' ⟨rfl, rfl⟩)
    | (go_at_call 69; refine (signed_any _ _ (by omega) (by omega)).mono ?_; rintro e w' ⟨rfl, rfl⟩)
    | (go_at_call 73; refine (past_any _ _).mono ?_; rintro e w' ⟨rfl, rfl⟩)
    | (go_at_call 70; refine (turned_me _ n _ _ HT.out ha0 ha1 (by omega)).mono ?_; rintro e w' ⟨rfl, rfl⟩)
  go_ret
  refine ⟨ret_int ?_, rfl⟩
  have h2 := isF_bd (T % 2 == 1) 4 (by omega)
  omega

set_option maxHeartbeats 1000000 in
theorem flags_no (k : Int) (a b old : Nat) (w : World) (ha : a < 4294967296) (hb : b < 4294967296) (ho : old < 4294967296) (hk : k < 1 ∨ 12 < k) : Calls Try.prog 28 #[.int .i64 k, .int .u32 a, .int .u32 b, .int .u32 old] w fun e w' => e = .returned (.int .u32 ((old : Int) % 16)) ∧ w = w' := by
  have ho0 : (0 : Int) ≤ old := by omega
  have hb0 : (0 : Int) ≤ b := by omega
  have e1 : (k == 1) = false := by simp; omega
  have e2 : (k == 2) = false := by simp; omega
  have e3 : (k == 3) = false := by simp; omega
  have e4 : (k == 4) = false := by simp; omega
  have e5 : (k == 5) = false := by simp; omega
  have e10 : (k == 10) = false := by simp; omega
  have e11 : (k == 11) = false := by simp; omega
  have e12 : (k == 12) = false := by simp; omega
  have g2 : (k != 2) = true := by simp [bne, e2]
  have g4 : (k != 4) = true := by simp [bne, e4]
  rcases hk with hk | hk
  · have d6 : decide (k < 6) = true := decide_eq_true (by omega)
    clear hk
    go_enter Try.func28, Try.ntmps28
    go_wp2
    go_ret
    exact ⟨rfl, rfl⟩
  · have d6 : decide (k < 6) = false := decide_eq_false (by omega)
    have d9 : decide (9 < k) = true := decide_eq_true (by omega)
    clear hk
    go_enter Try.func28, Try.ntmps28
    go_wp2
    go_ret
    exact ⟨rfl, rfl⟩
set_option maxHeartbeats 1000000 in
theorem flags_zero (k : Int) (a b old : Nat) (w : World) (ha : a < 4294967296) (hb : b < 4294967296) (ho : old < 4294967296) (hk : k = 6 ∨ k = 7 ∨ k = 8 ∨ k = 9) (h0 : b % 32 = 0) : Calls Try.prog 28 #[.int .i64 k, .int .u32 a, .int .u32 b, .int .u32 old] w fun e w' => e = .returned (.int .u32 ((old : Int) % 16)) ∧ w = w' := by
  have ho0 : (0 : Int) ≤ old := by omega
  have hb0 : (0 : Int) ≤ b := by omega
  have hbi : (b : Int) % 32 = 0 := by omega
  rcases hk with rfl | rfl | rfl | rfl
  all_goals
    go_enter Try.func28, Try.ntmps28
    go_wp2
    go_ret
    exact ⟨rfl, rfl⟩

/-- How flags are made. -/
def flagsF (k : Int) (a b old : Nat) : Int :=
  if k = 1 then addF a b 0 else if k = 2 then addF a b (carF old) else if k = 3 then subF a b 0 else if k = 4 then subF a b (carF old)
  else if k = 5 then valF a else if k = 10 then mulF a b else if k = 11 then incF a old else if k = 12 then decF a old
  else if (k = 6 ∨ k = 7 ∨ k = 8 ∨ k = 9) ∧ 0 < b % 32 then
    (if k = 6 then shlF a (b % 32) else if k = 7 then shrF a (b % 32) else if k = 8 then sarF a (b % 32) else rolF a (b % 32) old)
  else (old : Int) % 16
theorem flags_any (k : Int) (a b old : Nat) (w : World) (ha : a < 4294967296) (hb : b < 4294967296) (ho : old < 4294967296) : Calls Try.prog 28 #[.int .i64 k, .int .u32 a, .int .u32 b, .int .u32 old] w fun e w' => e = .returned (.int .u32 (flagsF k a b old)) ∧ w = w' := by
  by_cases hk : k < 1 ∨ 12 < k
  · have e : flagsF k a b old = (old : Int) % 16 := by
      unfold flagsF
      repeat rw [if_neg (by omega)]
    rw [e]; exact flags_no k a b old w ha hb ho hk
  · have hc : k = 1 ∨ k = 2 ∨ k = 3 ∨ k = 4 ∨ k = 5 ∨ k = 6 ∨ k = 7 ∨ k = 8 ∨ k = 9 ∨ k = 10 ∨ k = 11 ∨ k = 12 := by omega
    by_cases h0 : 0 < b % 32
    · rcases hc with rfl | rfl | rfl | rfl | rfl | rfl | rfl | rfl | rfl | rfl | rfl | rfl
      · exact flags1 a b old w ha hb ho
      · exact flags2 a b old w ha hb ho
      · exact flags3 a b old w ha hb ho
      · exact flags4 a b old w ha hb ho
      · exact flags5 a b old w ha hb ho
      · have e : flagsF 6 a b old = shlF a (b % 32) := by simp [flagsF, h0]
        rw [e]; exact flags6 a b old w ha hb ho h0
      · have e : flagsF 7 a b old = shrF a (b % 32) := by simp [flagsF, h0]
        rw [e]; exact flags7 a b old w ha hb ho h0
      · have e : flagsF 8 a b old = sarF a (b % 32) := by simp [flagsF, h0]
        rw [e]; exact flags8 a b old w ha hb ho h0
      · have e : flagsF 9 a b old = rolF a (b % 32) old := by simp [flagsF, h0]
        rw [e]; exact flags9 a b old w ha hb ho h0
      · exact flags10 a b old w ha hb ho
      · exact flags11 a b old w ha hb ho
      · exact flags12 a b old w ha hb ho
    · have hz : b % 32 = 0 := by omega
      rcases hc with rfl | rfl | rfl | rfl | rfl | rfl | rfl | rfl | rfl | rfl | rfl | rfl
      · exact flags1 a b old w ha hb ho
      · exact flags2 a b old w ha hb ho
      · exact flags3 a b old w ha hb ho
      · exact flags4 a b old w ha hb ho
      · exact flags5 a b old w ha hb ho
      · have e : flagsF 6 a b old = (old : Int) % 16 := by simp [flagsF, hz]
        rw [e]; exact flags_zero 6 a b old w ha hb ho (by omega) hz
      · have e : flagsF 7 a b old = (old : Int) % 16 := by simp [flagsF, hz]
        rw [e]; exact flags_zero 7 a b old w ha hb ho (by omega) hz
      · have e : flagsF 8 a b old = (old : Int) % 16 := by simp [flagsF, hz]
        rw [e]; exact flags_zero 8 a b old w ha hb ho (by omega) hz
      · have e : flagsF 9 a b old = (old : Int) % 16 := by simp [flagsF, hz]
        rw [e]; exact flags_zero 9 a b old w ha hb ho (by omega) hz
      · exact flags10 a b old w ha hb ho
      · exact flags11 a b old w ha hb ho
      · exact flags12 a b old w ha hb ho
end Go.Proofs.Ytcdphcbjmpgjmaa.Fl
