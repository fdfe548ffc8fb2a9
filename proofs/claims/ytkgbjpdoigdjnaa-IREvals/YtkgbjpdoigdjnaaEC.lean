import Derived.Test.YtkgbjpdoigdjnaaEB
namespace Go.Proofs.Ytkgbjpdoigdjnaa
open Go.RowKit
set_option maxRecDepth 100000
set_option linter.unusedVariables false
set_option linter.unusedSimpArgs false

theorem mv5 (a n y : Nat) (w : World) (ha : a < 4294967296) (hn : n < 32) (hy : a * 2 ^ n % 4294967296 = y) : Calls Try.prog 185 #[.int .i64 5, .int .u32 a, .int .i64 n] w fun e w' => e = .returned (.int .u32 y) ∧ w = w' := by
  have hs : IntKind.u32.wrap ((a : Int) * 2 ^ n) = (y : Int) := by rw [shl_cast, wrap_u32n, hy]
  have n0 : (0 : Int) ≤ (n : Int) := by omega
  clear hy
  go_enter Try.func185, Try.ntmps185; go_wp2; go_ret; exact ⟨rfl, rfl⟩
theorem mv6 (a n : Nat) (w : World) (ha : a < 4294967296) (hn : n < 32) : Calls Try.prog 185 #[.int .i64 6, .int .u32 a, .int .i64 n] w fun e w' => e = .returned (.int .u32 ((a : Int) / 2 ^ n)) ∧ w = w' := by
  have n0 : (0 : Int) ≤ (n : Int) := by omega
  have hb := Fl.ediv_bd a n (by omega)
  go_enter Try.func185, Try.ntmps185; go_wp2; go_ret; exact ⟨rfl, rfl⟩
theorem mv7 (a n : Nat) (w : World) (ha : a < 4294967296) (hn : n < 32) : Calls Try.prog 185 #[.int .i64 7, .int .u32 a, .int .i64 n] w fun e w' => e = .returned (.int .u32 (Fl.sgn a / 2 ^ n % 4294967296)) ∧ w = w' := by
  have n0 : (0 : Int) ≤ (n : Int) := by omega
  have hw : wrap32 (a : Int) = Fl.sgn a := wrap32_sgn a ha
  go_enter Try.func185, Try.ntmps185; go_wp2; go_ret; exact ⟨rfl, rfl⟩
theorem mv8 (a n t : Nat) (w : World) (ha : a < 4294967296) (hn : n < 32) (ht : Fl.turN n a = t) : Calls Try.prog 185 #[.int .i64 8, .int .u32 a, .int .i64 n] w fun e w' => e = .returned (.int .u32 t) ∧ w = w' := by
  have HT : Hid _ := ht
  clear ht
  go_enter Try.func185, Try.ntmps185
  go_wp2_with (go_at_call 158; refine (rot32_me a n t _ HT.out ha hn).mono ?_; rintro e w1 ⟨rfl, rfl⟩)
  go_ret
  exact ⟨rfl, rfl⟩
set_option maxHeartbeats 1000000 in
theorem pbin0 (a b : Nat) (w : World) (ha : a < 4294967296) (hb : b < 4294967296) : Calls Try.prog 182 #[.int .i64 0, .int .u32 a, .int .u32 b] w fun e w' => e = .returned (.int .u32 (binF 0 a b)) ∧ w = w' := by
  go_enter Try.func182, Try.ntmps182
  go_wp2
  go_ret
  exact ⟨retu (by simp [binF, aluOf, Fl.recX]), rfl⟩
set_option maxHeartbeats 1000000 in
theorem pbin1 (a b : Nat) (w : World) (ha : a < 4294967296) (hb : b < 4294967296) : Calls Try.prog 182 #[.int .i64 1, .int .u32 a, .int .u32 b] w fun e w' => e = .returned (.int .u32 (binF 1 a b)) ∧ w = w' := by
  go_enter Try.func182, Try.ntmps182
  go_wp2
  go_ret
  exact ⟨retu (by simp [binF, aluOf, Fl.recX]), rfl⟩
set_option maxHeartbeats 1000000 in
theorem pbin2 (a b : Nat) (w : World) (ha : a < 4294967296) (hb : b < 4294967296) : Calls Try.prog 182 #[.int .i64 2, .int .u32 a, .int .u32 b] w fun e w' => e = .returned (.int .u32 (binF 2 a b)) ∧ w = w' := by
  have h : bits .and .u32 (a : Int) (b : Int) = ((a &&& b : Nat) : Int) := Go.u32_and_nat _ _ ha hb
  go_enter Try.func182, Try.ntmps182
  go_wp2
  go_ret
  exact ⟨retu (by simp [binF, aluOf, Fl.recX, Fl.bitN]), rfl⟩
set_option maxHeartbeats 1000000 in
theorem pbin3 (a b : Nat) (w : World) (ha : a < 4294967296) (hb : b < 4294967296) : Calls Try.prog 182 #[.int .i64 3, .int .u32 a, .int .u32 b] w fun e w' => e = .returned (.int .u32 (binF 3 a b)) ∧ w = w' := by
  have h : bits .or .u32 (a : Int) (b : Int) = ((a ||| b : Nat) : Int) := Go.u32_or_nat _ _ ha hb
  go_enter Try.func182, Try.ntmps182
  go_wp2
  go_ret
  exact ⟨retu (by simp [binF, aluOf, Fl.recX, Fl.bitN]), rfl⟩
set_option maxHeartbeats 1000000 in
theorem pbin4 (a b : Nat) (w : World) (ha : a < 4294967296) (hb : b < 4294967296) : Calls Try.prog 182 #[.int .i64 4, .int .u32 a, .int .u32 b] w fun e w' => e = .returned (.int .u32 (binF 4 a b)) ∧ w = w' := by
  have h : bits .xor .u32 (a : Int) (b : Int) = ((a ^^^ b : Nat) : Int) := Go.u32_xor_nat _ _ ha hb
  go_enter Try.func182, Try.ntmps182
  go_wp2
  go_ret
  exact ⟨retu (by simp [binF, aluOf, Fl.recX, Fl.bitN]), rfl⟩
set_option maxHeartbeats 1000000 in
theorem pbin5 (a b : Nat) (w : World) (ha : a < 4294967296) (hb : b < 4294967296) : Calls Try.prog 182 #[.int .i64 5, .int .u32 a, .int .u32 b] w fun e w' => e = .returned (.int .u32 (binF 5 a b)) ∧ w = w' := by
  obtain ⟨n, hn⟩ : ∃ n : Nat, b % 32 = n := ⟨_, rfl⟩
  have h31 : bits .and .u32 (b : Int) 31 = (n : Int) := by rw [and31 b hb, hn]
  have hnl : n < 32 := by omega
  have n0 : (0 : Int) ≤ (n : Int) := by omega
  have n1 : (n : Int) < 32 := by omega
  have HN : Hid _ := hn
  clear hn
  go_enter Try.func182, Try.ntmps182
  go_wp2_with (go_at_call 185; refine (mv5 a n _ _ ha hnl rfl).mono ?_; rintro e w1 ⟨rfl, rfl⟩)
  go_ret
  exact ⟨retu (by simp [binF, aluOf, Fl.recX, HN.out]), rfl⟩
set_option maxHeartbeats 1000000 in
theorem pbin6 (a b : Nat) (w : World) (ha : a < 4294967296) (hb : b < 4294967296) : Calls Try.prog 182 #[.int .i64 6, .int .u32 a, .int .u32 b] w fun e w' => e = .returned (.int .u32 (binF 6 a b)) ∧ w = w' := by
  obtain ⟨n, hn⟩ : ∃ n : Nat, b % 32 = n := ⟨_, rfl⟩
  have h31 : bits .and .u32 (b : Int) 31 = (n : Int) := by rw [and31 b hb, hn]
  have hnl : n < 32 := by omega
  have n0 : (0 : Int) ≤ (n : Int) := by omega
  have n1 : (n : Int) < 32 := by omega
  have HN : Hid _ := hn
  clear hn
  go_enter Try.func182, Try.ntmps182
  go_wp2_with (go_at_call 185; refine (mv6 a n _ ha hnl).mono ?_; rintro e w1 ⟨rfl, rfl⟩)
  go_ret
  exact ⟨retu (by simp [binF, aluOf, Fl.recX, HN.out]), rfl⟩
set_option maxHeartbeats 1000000 in
theorem pbin7 (a b : Nat) (w : World) (ha : a < 4294967296) (hb : b < 4294967296) : Calls Try.prog 182 #[.int .i64 7, .int .u32 a, .int .u32 b] w fun e w' => e = .returned (.int .u32 (binF 7 a b)) ∧ w = w' := by
  obtain ⟨n, hn⟩ : ∃ n : Nat, b % 32 = n := ⟨_, rfl⟩
  have h31 : bits .and .u32 (b : Int) 31 = (n : Int) := by rw [and31 b hb, hn]
  have hnl : n < 32 := by omega
  have n0 : (0 : Int) ≤ (n : Int) := by omega
  have n1 : (n : Int) < 32 := by omega
  have HN : Hid _ := hn
  clear hn
  go_enter Try.func182, Try.ntmps182
  go_wp2_with (go_at_call 185; refine (mv7 a n _ ha hnl).mono ?_; rintro e w1 ⟨rfl, rfl⟩)
  go_ret
  exact ⟨retu (by simp [binF, aluOf, Fl.recX, HN.out]), rfl⟩
set_option maxHeartbeats 1000000 in
theorem pbin8 (a b : Nat) (w : World) (ha : a < 4294967296) (hb : b < 4294967296) : Calls Try.prog 182 #[.int .i64 8, .int .u32 a, .int .u32 b] w fun e w' => e = .returned (.int .u32 (binF 8 a b)) ∧ w = w' := by
  obtain ⟨n, hn⟩ : ∃ n : Nat, b % 32 = n := ⟨_, rfl⟩
  have h31 : bits .and .u32 (b : Int) 31 = (n : Int) := by rw [and31 b hb, hn]
  have hnl : n < 32 := by omega
  have n0 : (0 : Int) ≤ (n : Int) := by omega
  have n1 : (n : Int) < 32 := by omega
  have HN : Hid _ := hn
  obtain ⟨t, HT⟩ : ∃ t : Nat, Hid (Fl.turN n a = t) := ⟨(Fl.turN n a).toNat, by show _ = _; have := Fl.turN_bd n a (by omega) (by omega); omega⟩
  clear hn
  go_enter Try.func182, Try.ntmps182
  go_wp2_with (go_at_call 185; refine (mv8 a n t _ ha hnl HT.out).mono ?_; rintro e w1 ⟨rfl, rfl⟩)
  go_ret
  exact ⟨retu (by simp [binF, aluOf, Fl.recX, HN.out, HT.out]), rfl⟩
set_option maxHeartbeats 1000000 in
theorem pbin9 (a b : Nat) (w : World) (ha : a < 4294967296) (hb : b < 4294967296) : Calls Try.prog 182 #[.int .i64 9, .int .u32 a, .int .u32 b] w fun e w' => e = .returned (.int .u32 (binF 9 a b)) ∧ w = w' := by
  obtain ⟨p, hp⟩ : ∃ p : Nat, a * b = p := ⟨_, rfl⟩
  have hpi : (a : Int) * (b : Int) = (p : Int) := by rw [← Int.natCast_mul, hp]
  have HP : Hid _ := hp
  clear hp
  go_enter Try.func182, Try.ntmps182
  go_wp2
  go_ret
  exact ⟨retu (by simp [binF, aluOf, Fl.recX, HP.out]), rfl⟩
set_option maxHeartbeats 1000000 in
theorem pbin10 (a b : Nat) (w : World) (ha : a < 4294967296) (hb : b < 4294967296) : Calls Try.prog 182 #[.int .i64 10, .int .u32 a, .int .u32 b] w fun e w' => e = .returned (.int .u32 (binF 10 a b)) ∧ w = w' := by
  go_enter Try.func182, Try.ntmps182
  go_wp2_with (go_at_call 162; refine (mul32 a b _ ha hb).mono ?_; rintro e w1 ⟨rfl, rfl⟩)
  go_ret
  exact ⟨retu (by simp [binF]), rfl⟩
set_option maxHeartbeats 1000000 in
theorem pbin11 (a b : Nat) (w : World) (ha : a < 4294967296) (hb : b < 4294967296) : Calls Try.prog 182 #[.int .i64 11, .int .u32 a, .int .u32 b] w fun e w' => e = .returned (.int .u32 (binF 11 a b)) ∧ w = w' := by
  by_cases h : b = 0
  · subst h
    go_enter Try.func182, Try.ntmps182; go_wp2; go_ret; exact ⟨rfl, rfl⟩
  · have d : ((b : Int) == 0) = false := by simp; omega
    have a0 : (0 : Int) ≤ (a : Int) := by omega
    have b0 : (1 : Int) ≤ (b : Int) := by omega
    go_enter Try.func182, Try.ntmps182; go_wp2; go_ret
    exact ⟨retu (by
      have e : ((a : Int) / (b : Int)) % 4294967296 = ((a / b : Nat) : Int) := by (have hq := Nat.div_le_self a b; rw [← Int.natCast_ediv]; generalize a / b = q at hq ⊢; omega)
      simp only [binF, h]; simpa using e), rfl⟩
set_option maxHeartbeats 1000000 in
theorem pbin12 (a b : Nat) (w : World) (ha : a < 4294967296) (hb : b < 4294967296) : Calls Try.prog 182 #[.int .i64 12, .int .u32 a, .int .u32 b] w fun e w' => e = .returned (.int .u32 (binF 12 a b)) ∧ w = w' := by
  by_cases h : b = 0
  · subst h
    go_enter Try.func182, Try.ntmps182; go_wp2; go_ret; exact ⟨rfl, rfl⟩
  · have d : ((b : Int) == 0) = false := by simp; omega
    have a0 : (0 : Int) ≤ (a : Int) := by omega
    have b0 : (1 : Int) ≤ (b : Int) := by omega
    go_enter Try.func182, Try.ntmps182; go_wp2; go_ret; exact ⟨retu (by simp [binF, h]), rfl⟩
set_option maxHeartbeats 1000000 in
theorem pbin13 (a b : Nat) (w : World) (ha : a < 4294967296) (hb : b < 4294967296) : Calls Try.prog 182 #[.int .i64 13, .int .u32 a, .int .u32 b] w fun e w' => e = .returned (.int .u32 (binF 13 a b)) ∧ w = w' := by
  go_enter Try.func182, Try.ntmps182
  go_wp2_with (go_at_call 184; refine (truth_any _ _).mono ?_; rintro e w1 ⟨rfl, rfl⟩)
  go_ret
  exact ⟨retu (by simp [binF]), rfl⟩
set_option maxHeartbeats 1000000 in
theorem pbin14 (a b : Nat) (w : World) (ha : a < 4294967296) (hb : b < 4294967296) : Calls Try.prog 182 #[.int .i64 14, .int .u32 a, .int .u32 b] w fun e w' => e = .returned (.int .u32 (binF 14 a b)) ∧ w = w' := by
  go_enter Try.func182, Try.ntmps182
  go_wp2_with (go_at_call 184; refine (truth_any _ _).mono ?_; rintro e w1 ⟨rfl, rfl⟩)
  go_ret
  exact ⟨retu (by simp [binF]), rfl⟩
set_option maxHeartbeats 1000000 in
theorem pbin15 (a b : Nat) (w : World) (ha : a < 4294967296) (hb : b < 4294967296) : Calls Try.prog 182 #[.int .i64 15, .int .u32 a, .int .u32 b] w fun e w' => e = .returned (.int .u32 (binF 15 a b)) ∧ w = w' := by
  have hwa : wrap32 (a : Int) = Fl.sgn a := wrap32_sgn a ha
  have hwb : wrap32 (b : Int) = Fl.sgn b := wrap32_sgn b hb
  go_enter Try.func182, Try.ntmps182
  go_wp2_with (go_at_call 184; refine (truth_any _ _).mono ?_; rintro e w1 ⟨rfl, rfl⟩)
  go_ret
  exact ⟨retu (by simp [binF]), rfl⟩
theorem pbin_any (k : Int) (a b : Nat) (w : World) (ha : a < 4294967296) (hb : b < 4294967296) (hk : 0 ≤ k ∧ k ≤ 15) : Calls Try.prog 182 #[.int .i64 k, .int .u32 a, .int .u32 b] w fun e w' => e = .returned (.int .u32 (binF k a b)) ∧ w = w' := by
  rcases (by omega : k = 0 ∨ k = 1 ∨ k = 2 ∨ k = 3 ∨ k = 4 ∨ k = 5 ∨ k = 6 ∨ k = 7 ∨ k = 8 ∨ k = 9 ∨ k = 10 ∨ k = 11 ∨ k = 12 ∨ k = 13 ∨ k = 14 ∨ k = 15) with rfl | rfl | rfl | rfl | rfl | rfl | rfl | rfl | rfl | rfl | rfl | rfl | rfl | rfl | rfl | rfl
  · exact pbin0 a b w ha hb
  · exact pbin1 a b w ha hb
  · exact pbin2 a b w ha hb
  · exact pbin3 a b w ha hb
  · exact pbin4 a b w ha hb
  · exact pbin5 a b w ha hb
  · exact pbin6 a b w ha hb
  · exact pbin7 a b w ha hb
  · exact pbin8 a b w ha hb
  · exact pbin9 a b w ha hb
  · exact pbin10 a b w ha hb
  · exact pbin11 a b w ha hb
  · exact pbin12 a b w ha hb
  · exact pbin13 a b w ha hb
  · exact pbin14 a b w ha hb
  · exact pbin15 a b w ha hb
end Go.Proofs.Ytkgbjpdoigdjnaa
