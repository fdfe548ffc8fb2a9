import Derived.Test.YtkhaajbhgenicaaMJ
namespace Go.Proofs.Ytkhaajbhgenicaa
open Go.RowKit
set_option maxRecDepth 100000
set_option linter.unusedVariables false

/-- The number of n bytes. -/
def ldv (B : Nat → Int) (a : Nat) : Nat → Int
  | 0 => 0
  | n + 1 => ldv B a n + B (a + n) * 256 ^ n
theorem ldv_bd (B : Nat → Int) (a : Nat) (hB : ∀ i, 0 ≤ B i ∧ B i ≤ 255) : ∀ n, 0 ≤ ldv B a n ∧ ldv B a n < 256 ^ n
  | 0 => by simp [ldv]
  | n + 1 => by
    have h := ldv_bd B a hB n
    have hb := hB (a + n)
    have hp : (0 : Int) < 256 ^ n := Int.pow_pos (by decide)
    simp only [ldv, Int.pow_succ]
    generalize (256 : Int) ^ n = p at *
    generalize B (a + n) = b at *
    have h1 : 0 ≤ b * p := Int.mul_nonneg hb.1 (by omega)
    have h2 : b * p ≤ 255 * p := Int.mul_le_mul_of_nonneg_right hb.2 (by omega)
    omega

theorem or_add (a y : Int) (s : Nat) (ha : 0 ≤ a) (has : a < 2 ^ s) (hy : 0 ≤ y) (hs : y * 2 ^ s < 4294967296) (hs2 : (2 : Int) ^ s ≤ 4294967296) : bits .or .u32 a (y * 2 ^ s) = a + y * 2 ^ s := by
  have h2 : (0 : Int) < 2 ^ s := Int.pow_pos (by decide)
  rw [u32_or a (y * 2 ^ s) ha (by omega) (Int.mul_nonneg hy (by omega)) hs]
  obtain ⟨m, rfl⟩ := Int.eq_ofNat_of_zero_le ha
  obtain ⟨n, rfl⟩ := Int.eq_ofNat_of_zero_le hy
  have e1 : ((n : Int) * 2 ^ s).toNat = 2 ^ s * n := by
    have : (n : Int) * 2 ^ s = ((n * 2 ^ s : Nat) : Int) := by simp
    rw [this, Int.toNat_natCast, Nat.mul_comm]
  have hm : m < 2 ^ s := by have : ((2 ^ s : Nat) : Int) = 2 ^ s := by simp
                            omega
  rw [e1, Int.toNat_natCast, Nat.or_comm, ← Nat.two_pow_add_eq_or_of_lt hm]
  simp [Int.mul_comm, Int.add_comm]
theorem or_eq (j : Nat) (L b : Int) (hj : j = 0 ∨ j = 1 ∨ j = 2 ∨ j = 3) (hL0 : 0 ≤ L) (hL : L < 256 ^ j) (hb0 : 0 ≤ b) (hb1 : b ≤ 255) : bits .or .u32 L (b * 2 ^ (8 * j) % 4294967296) = L + b * 256 ^ j := by
  have hp : (2 : Int) ^ (8 * j) = 256 ^ j := by rw [Int.pow_mul]; rfl
  have h4 : b * 256 ^ j < 4294967296 ∧ (256 : Int) ^ j ≤ 4294967296 := by
    rcases hj with rfl | rfl | rfl | rfl
    · simp; omega
    · show b * 256 < _ ∧ (256 : Int) ≤ _; omega
    · show b * 65536 < _ ∧ (65536 : Int) ≤ _; omega
    · show b * 16777216 < _ ∧ (16777216 : Int) ≤ _; omega
  have h0 : 0 ≤ b * 256 ^ j := Int.mul_nonneg hb0 (Int.le_of_lt (Int.pow_pos (by decide)))
  have hmod : b * 2 ^ (8 * j) % 4294967296 = b * 2 ^ (8 * j) := Int.emod_eq_of_lt (by rw [hp]; exact h0) (by rw [hp]; exact h4.1)
  rw [hmod, or_add L b (8 * j) hL0 (by rw [hp]; exact hL) hb0 (by rw [hp]; exact h4.1) (by rw [hp]; exact h4.2), hp]

theorem load_bad (X a x : Nat) (n : Int) (s : MS) (w : World) (ha : a < 4294967296) (hs : s.Ok) (h : PM w X s) (hb : badN s 1 a n.toNat = some x) :
    Calls Try.prog 35 #[.pointer (some ⟨X, 0, none⟩), .int .u32 a, .int .i64 n] w fun e w' => e = .returned (.tuple #[.int .u32 0, stV 5 x]) ∧ Below w.heap.size w w' := by
  have HP : Hid (PM w X s) := h
  have HB : Hid (badN s 1 a n.toNat = some x) := hb
  clear h hb
  go_enter Try.func35, Try.ntmps35
  go_wp2_with (go_at_call 61; refine (allowed_bad X a x n 1 s _ ha (.inl rfl) hs (HP.out.alloc _) HB.out).mono ?_; rintro e w' ⟨rfl, rfl⟩)
  exact bodyPost_ret (v := .tuple #[.int .u32 0, stV 5 x]) (by simp [results, Try.results35, go_sem]) rfl ⟨rfl, by first | exact (((Below.refl _ _).alloc (Nat.le_refl _) _).setCell (Nat.le_refl _) _).setCell (Nat.le_refl _) _ | exact ((Below.refl _ _).alloc (Nat.le_refl _) _).setCell (Nat.le_refl _) _ | exact (Below.refl _ _).alloc (Nat.le_refl _) _⟩

theorem load_none (X a : Nat) (n : Int) (s : MS) (w : World) (hn : ¬ (n = 1 ∨ n = 2 ∨ n = 4)) (ha : a < 4294967296) (hs : s.Ok) (h : PM w X s) (hb : badN s 1 a n.toNat = none) :
    Calls Try.prog 35 #[.pointer (some ⟨X, 0, none⟩), .int .u32 a, .int .i64 n] w fun e w' => e = .returned (.tuple #[.int .u32 0, goV]) ∧ Below w.heap.size w w' := by
  have HP : Hid (PM w X s) := h
  have HB : Hid (badN s 1 a n.toNat = none) := hb
  have HN : Hid (¬ (n = 1 ∨ n = 2 ∨ n = 4)) := hn
  clear h hb hn
  go_enter Try.func35, Try.ntmps35
  go_wp2_with first
    | (go_at_call 61; refine (allowed_ok X a n 1 s _ ha (.inl rfl) hs (HP.out.alloc _) HB.out).mono ?_; rintro e w' ⟨rfl, rfl⟩)
    | (go_at_call 62; refine (wid_no _ _ HN.out).mono ?_; rintro e w' ⟨rfl, rfl⟩)
  exact bodyPost_ret (v := .tuple #[.int .u32 0, goV]) (by simp [results, Try.results35, go_sem]) rfl ⟨rfl, by first | exact (((Below.refl _ _).alloc (Nat.le_refl _) _).setCell (Nat.le_refl _) _).setCell (Nat.le_refl _) _ | exact ((Below.refl _ _).alloc (Nat.le_refl _) _).setCell (Nat.le_refl _) _ | exact (Below.refl _ _).alloc (Nat.le_refl _) _⟩

set_option maxHeartbeats 1000000 in
theorem load_ok (X a n : Nat) (s : MS) (w : World) (hn : n = 1 ∨ n = 2 ∨ n = 4) (ha : a < 4294967296) (hs : s.Ok) (h : PM w X s) (hb : badN s 1 a n = none) :
    Calls Try.prog 35 #[.pointer (some ⟨X, 0, none⟩), .int .u32 a, .int .i64 n] w fun e w' => e = .returned (.tuple #[.int .u32 (ldv s.B a n), goV]) ∧ Below w.heap.size w w' := by
  have HN : Hid ((n : Int) = 1 ∨ (n : Int) = 2 ∨ (n : Int) = 4) := show _ ∨ _ ∨ _ by omega
  have HN4 : Hid (n ≤ 4 ∧ 0 < n) := show _ ∧ _ by omega
  have hl := badN_lt hb (show 0 < n by omega)
  have HL : Hid (a + n ≤ 65536) := hl
  have ha0 : (0 : Int) ≤ a := by omega
  have ha1 : (a : Int) < 4294967296 := by omega
  have hs1 : (a : Int) + n ≤ 65536 := by omega
  have hn0 : (0 : Int) ≤ n := by omega
  have hne : ¬ 65536 = a := by omega
  have hs0 : (0 : Int) ≤ (a : Int) + n := by omega
  have ht : ((a : Int) + n).toNat = a + n := by omega
  have hle : (a : Int) ≤ (a : Int) + n := by omega
  have HP : Hid (PM w X s) := h
  have HB : Hid (badN s 1 a (n : Int).toNat = none) := hb
  clear hn h hb hl
  go_enter Try.func35, Try.ntmps35
  go_wp2_with first
    | (go_at_call 61; refine (allowed_ok X a n 1 s _ ha (.inl rfl) hs (HP.out.alloc _) HB.out).mono ?_; rintro e w' ⟨rfl, rfl⟩)
    | (go_at_call 62; refine (wid_yes _ _ HN.out).mono ?_; rintro e w' ⟨rfl, rfl⟩)
  go_loop [10, 38] (fun vv i => ∃ j : Nat, i = .int .i64 j ∧ vv = .int .u32 (ldv s.B a j) ∧ j ≤ n) (fun _ i => n - (intOf i).toNat)
  case atStart => exact ⟨0, rfl, rfl, by omega⟩
  case round =>
    obtain ⟨j, rfl, rfl, hj⟩ := hrel
    have hbd := ldv_bd s.B a hs.by_ j
    by_cases hlt : j < n
    · have hai : a + j < 65536 := by have := HL.out; omega
      have hX : X < w.heap.size := HP.out.lt
      have hcb := HP.out.by_ (a + j) hai
      have hj0 : (0 : Int) ≤ j := by omega
      have hji : (j : Int) < n := by omega
      obtain ⟨b, hbb⟩ : ∃ b, s.B (a + j) = b := ⟨_, rfl⟩
      have hB := hs.by_ (a + j)
      rw [hbb] at hcb hB
      obtain ⟨hB0, hB1⟩ := hB
      obtain ⟨L, hL⟩ : ∃ L, ldv s.B a j = L := ⟨_, rfl⟩
      have HLJ : Hid (ldv s.B a (j + 1) = L + b * 256 ^ j) := show _ = _ by rw [ldv, hL, hbb]
      have HJ : Hid ((j = 0 ∨ j = 1 ∨ j = 2 ∨ j = 3) ∧ 0 ≤ L ∧ L < 256 ^ j) := ⟨by have := HN4.out; omega, by rw [← hL]; exact hbd⟩
      have h80 : (0 : Int) ≤ 8 * (j : Int) := by omega
      have hj4 : (j : Int) ≤ 3 := by have := HN4.out; omega
      rw [hL]
      clear hbb hbd hL hai hj
      go_wp2
      go_round
      case rel => exact ⟨j + 1, by go_num, by rw [HLJ.out, or_eq j L b HJ.out.1 HJ.out.2.1 HJ.out.2.2 hB0 hB1], by omega⟩
      case measure => simp [intOf]; omega
    · have hjn : j = n := by omega
      subst hjn
      clear hbd hj
      go_wp2
      exact bodyPost_ret (v := .tuple #[.int .u32 (ldv s.B a j), goV]) (by simp [results, Try.results35, go_sem]) rfl ⟨rfl, by first | exact (((Below.refl _ _).alloc (Nat.le_refl _) _).setCell (Nat.le_refl _) _).setCell (Nat.le_refl _) _ | exact ((Below.refl _ _).alloc (Nat.le_refl _) _).setCell (Nat.le_refl _) _ | exact (Below.refl _ _).alloc (Nat.le_refl _) _⟩

set_option maxHeartbeats 400000 in
theorem rload_bad (k : RB) (a x : Nat) (n : Int) (s : MS) (w : World) (ha : a < 4294967296) (hs : s.Ok) (h : RM w k s) (hb : badN s 1 a n.toNat = some x) :
    Calls Try.prog 36 #[.pointer (some ⟨k.y, 0, none⟩), .int .u32 a, .int .i64 n] w fun e w' => e = .returned (.tuple #[.int .u32 0, stV 5 x]) ∧ Below w.heap.size w w' := by
  have HP : Hid (RM w k s) := h
  have HB : Hid (badN s 1 a n.toNat = some x) := hb
  clear h hb
  go_enter Try.func36, Try.ntmps36
  go_wp2_with (go_at_call 63; refine (use_bad k a x n 1 5 s _ ha (.inl rfl) hs (HP.out.alloc _) HB.out).mono ?_; rintro e w' ⟨rfl, hBl⟩; obtain ⟨q0, q1, q2, q3⟩ := own2 hBl; have HBl : Hid _ := hBl; clear hBl)
  go_region
  all_goals
    go_wp2
    exact bodyPost_ret (v := .tuple #[.int .u32 0, stV 5 x]) (by simp [results, Try.results36, go_sem, q0, q1, q3]) rfl ⟨rfl, below_res2 HBl.out _ _ _⟩

set_option maxHeartbeats 400000 in
theorem rload_none (k : RB) (a : Nat) (n : Int) (s : MS) (w : World) (hn : ¬ (n = 1 ∨ n = 2 ∨ n = 4)) (ha : a < 4294967296) (hs : s.Ok) (h : RM w k s) (hb : badN s 1 a n.toNat = none) :
    Calls Try.prog 36 #[.pointer (some ⟨k.y, 0, none⟩), .int .u32 a, .int .i64 n] w fun e w' => e = .returned (.tuple #[.int .u32 0, goV]) ∧ Below w.heap.size w w' := by
  have HP : Hid (RM w k s) := h
  have HB : Hid (badN s 1 a n.toNat = none) := hb
  have h1 : (n == 1) = false := by simp; omega
  have h2 : (n == 2) = false := by simp; omega
  have h4 : (n == 4) = false := by simp; omega
  have g1 : (n != 1) = true := by simp [bne, h1]
  have g2 : (n != 2) = true := by simp [bne, h2]
  have g4 : (n != 4) = true := by simp [bne, h4]
  clear h hb hn
  go_enter Try.func36, Try.ntmps36
  go_wp2_with (go_at_call 63; refine (use_ok k a n 1 5 s _ ha (.inl rfl) hs (HP.out.alloc _) HB.out).mono ?_; rintro e w' ⟨rfl, hBl⟩; obtain ⟨q0, q1, q2, q3⟩ := own2 hBl; have HBl : Hid _ := hBl; clear hBl)
  go_region
  all_goals
    go_wp2
    exact bodyPost_ret (v := .tuple #[.int .u32 0, goV]) (by simp [results, Try.results36, go_sem, q0, q1, q3]) rfl ⟨rfl, below_res2 HBl.out _ _ _⟩

theorem ldv_cons (B : Nat → Int) (a : Nat) : ∀ n, ldv B a (n + 1) = ldv B (a + 1) n * 256 + B a
  | 0 => by simp [ldv]
  | n + 1 => by
    have ih := ldv_cons B a n
    rw [ldv, ih, ldv, Nat.add_right_comm a 1 n, ← Nat.add_assoc a n 1, Int.pow_succ]
    rw [Int.add_mul, Int.mul_assoc]
    omega

structure LdR (s : MS) (a N j : Nat) (x : Int) : Prop where
  le : j ≤ N
  eq : x = ldv s.B (a + j) (N - j)

set_option maxHeartbeats 2000000 in
theorem rload_N (k : RB) (a N : Nat) (n : Int) (s : MS) (w : World) (hN : n = (N : Int)) (hn : n = 1 ∨ n = 2 ∨ n = 4) (ha : a < 4294967296) (hs : s.Ok) (h : RM w k s) (hb : badN s 1 a n.toNat = none) :
    Calls Try.prog 36 #[.pointer (some ⟨k.y, 0, none⟩), .int .u32 a, .int .i64 n] w fun e w' => e = .returned (.tuple #[.int .u32 (ldv s.B a N), goV]) ∧ Below w.heap.size w w' := by
  have HN : Hid (n = (N : Int)) := hN
  have HN4 : Hid (N ≤ 4 ∧ 0 < N) := show _ ∧ _ by omega
  have hl := badN_lt hb (show 0 < n.toNat by omega)
  have HL : Hid (a + N ≤ 65536) := show a + N ≤ 65536 by omega
  have ha0 : (0 : Int) ≤ a := by omega
  have ha1 : (a : Int) < 65536 := by omega
  have HP : Hid (RM w k s) := h
  have HB : Hid (badN s 1 a n.toNat = none) := hb
  have hn4 : n ≤ 4 := by omega
  have hn0 : 0 ≤ n := by omega
  have key : ∀ w', Below (w.alloc (.cells #[.int .i64 0, .int .u32 0] 75)).heap.size (w.alloc (.cells #[.int .i64 0, .int .u32 0] 75)) w' → RM w' k s := fun w' hb => (h.alloc _).below hb (Nat.le_refl _)
  have HK : Hid _ := key
  clear h hb key hl
  have hcase : (n == 1) = true ∨ ((n == 1) = false ∧ (n == 2) = true) ∨ ((n == 1) = false ∧ (n == 2) = false ∧ (n == 4) = true) := by
    rcases hn with rfl | rfl | rfl
    · exact .inl rfl
    · exact .inr (.inl ⟨rfl, rfl⟩)
    · exact .inr (.inr ⟨rfl, rfl, rfl⟩)
  clear hn hN
  have hcase' : (n != 1) = false ∨ ((n != 1) = true ∧ (n != 2) = false) ∨ ((n != 1) = true ∧ (n != 2) = true ∧ (n != 4) = false) := by
    rcases hcase with h | h | h
    · exact .inl (by simp [bne, h])
    · exact .inr (.inl ⟨by simp [bne, h.1], by simp [bne, h.2]⟩)
    · exact .inr (.inr ⟨by simp [bne, h.1], by simp [bne, h.2.1], by simp [bne, h.2.2]⟩)
  clear hcase
  rcases hcase' with g1 | ⟨g1, g2⟩ | ⟨g1, g2, g4⟩
  all_goals
    go_enter Try.func36, Try.ntmps36
    go_wp2_with (go_at_call 63; refine (use_ok k a n 1 5 s _ ha (.inl rfl) hs (HP.out.alloc _) HB.out).mono ?_; rintro e w' ⟨rfl, hBl⟩; obtain ⟨q0, q1, q2, q3⟩ := own2 hBl; have hR := HK.out w' hBl; have hlty := hR.lty; have hltb := hR.ltb; have d0 := hR.c0; have HR : Hid (RM w' k s) := hR; have HBl : Hid _ := hBl; clear hBl hR)
    go_loop [9, 10] (fun vv i => ∃ (j : Nat) (x : Int), i = .int .i64 ((j : Int) - 1) ∧ vv = .int .u32 x ∧ LdR s a N j x) (fun _ i => (intOf i + 1).toNat)
    case atStart => exact ⟨N, 0, by rw [← HN.out], rfl, Nat.le_refl _, by simp [ldv]⟩
    case round =>
      obtain ⟨j, x, rfl, rfl, hjN, hx⟩ := hrel
      have hbd := ldv_bd s.B (a + j) hs.by_ (N - j)
      have h44 := HN4.out
      cases j with
      | zero =>
        have hz : ((0 : Nat) : Int) - 1 = -1 := rfl
        rw [hz]
        have HX : Hid (x = ldv s.B a N) := show _ = _ by simpa using hx
        clear hbd hx hjN h44 hz
        go_wp2
        go_region
        all_goals
          go_wp2
          refine bodyPost_ret (v := .tuple #[.int .u32 x, goV]) (by simp [results, Try.results36, go_sem, q0, q1, q3]) rfl ⟨by rw [HX.out], below_res2 HBl.out _ _ _⟩
      | succ t =>
        have e : ((t + 1 : Nat) : Int) - 1 = (t : Int) := by omega
        rw [e]
        have hat : a + t < 65536 := by have := HL.out; omega
        have hcb := HR.out.by_ (a + t) hat
        obtain ⟨b, hbb⟩ : ∃ b, s.B (a + t) = b := ⟨_, rfl⟩
        have hB := hs.by_ (a + t)
        rw [hbb] at hcb hB
        obtain ⟨hB0, hB1⟩ := hB
        rw [← hx] at hbd
        obtain ⟨hx0, hx1⟩ := hbd
        have hx2 : x < 16777216 := by
          have hc : N - (t + 1) = 0 ∨ N - (t + 1) = 1 ∨ N - (t + 1) = 2 ∨ N - (t + 1) = 3 := by omega
          rcases hc with h | h | h | h <;> rw [h] at hx1 <;> simp at hx1 <;> omega
        have HX : Hid (x * 256 + b = ldv s.B (a + t) (N - t)) := show _ = _ by
          rw [show N - t = (N - (t + 1)) + 1 by omega, ldv_cons, hbb, hx, Nat.add_assoc]
        have HT : Hid (t ≤ N) := show t ≤ N by omega
        have ht0 : (0 : Int) ≤ t := by omega
        have ht4 : (t : Int) ≤ 4 := by omega
        have hti : (a : Int) + t < 65536 := by omega
        clear hx hjN h44 e hx1 hbb hat
        go_wp2
        go_round
        case rel => exact ⟨t, x * 256 + b, by go_num, by go_num, HT.out, HX.out⟩
        case measure => simp [intOf]

theorem rload_ok (k : RB) (a n : Nat) (s : MS) (w : World) (hn : n = 1 ∨ n = 2 ∨ n = 4) (ha : a < 4294967296) (hs : s.Ok) (h : RM w k s) (hb : badN s 1 a n = none) :
    Calls Try.prog 36 #[.pointer (some ⟨k.y, 0, none⟩), .int .u32 a, .int .i64 n] w fun e w' => e = .returned (.tuple #[.int .u32 (ldv s.B a n), goV]) ∧ Below w.heap.size w w' :=
  rload_N k a n n s w rfl (by omega) ha hs h hb
end Go.Proofs.Ytkhaajbhgenicaa
